/- Parts of the proof, joined. -/
import Derived.Test.YtofcdondmgojiaaGreatDoorJ14
set_option linter.unusedSimpArgs false
set_option linter.unusedVariables false
namespace Go.Proofs.YtofcdondmgojiaaGreatDoor.Ab
open Go.RowKit Go.Proofs.YtofcdondmgojiaaGreatDoor Pl
abbrev rU (n:Nat):AV Kr := .fv (.sc (.sp (csIsR (.int .u8 (n:Int)) rfl true (fun _=>rfl))))
theorem index_s {o:Oper} {ρ:Operand→Value} {w:World} {t:Tmp} {s:ByteArray} {c:Nat} (ho:o.op = .index 9 (.tmp t) (.const (.int .i64 0))) (hx:ρ (.tmp t) = .string s) (hy:ρ (.const (.int .i64 0)) = .int .i64 0) (hc:∃ h:0<s.size,(s[0]'h).toNat=c) :
 (execOp ρ o).run Tryz.prog w = .ok (.value (.int .u8 (c:Int))) w:=by
 obtain ⟨h,hc⟩:=hc
 simp only [execOp,ho,hx,hy]
 refine bK ?_
 have h0:¬ s.size=0:=by omega
 simp [go_sem,run_underlying Tryz.underlying9,h,h0,hc]
theorem ueq_run {o:Oper} {ρ:Operand→Value} {w:World} {x y:Operand} {a b:Int} {r:Bool} (ho:o.op = .binOp .eql 5 x y 5) (hx:ρ x = .int .u8 a) (hy:ρ y = .int .u8 b) (h:(a==b)=r) :
 (execOp ρ o).run Tryz.prog w = .ok (.value (.bool r)) w:=by
 simp only [execOp,ho,hx,hy]
 refine bK ?_
 rw [← h]
 exact bQ (by kernel_rfl) w
theorem subn_run {o:Oper} {ρ:Operand→Value} {w:World} {x y:Operand} {a b:Nat} (ho:o.op = .binOp .sub 3 x y 3) (hx:ρ x = .int .i64 (a:Int)) (hy:ρ y = .int .i64 (b:Int)) (hle:b≤a) (ha:a≤9223372036854775807) :
 (execOp ρ o).run Tryz.prog w = .ok (.value (.int .i64 ((a-b:Nat):Int))) w:=by
 simp only [execOp,ho,hx,hy]
 refine bK ?_
 have e:IntKind.i64.wrap ((a:Int)-b)=((a-b:Nat):Int):=by
  rw [IntWalk.i64_left,IntWalk.wrap64_in _ ⟨by omega,by omega⟩];omega
 simp [go_sem,e]
theorem lss_run {o:Oper} {ρ:Operand→Value} {w:World} {x y:Operand} {a b:Int} {r:Bool} (ho:o.op = .binOp .lss 3 x y 3) (hx:ρ x = .int .i64 a) (hy:ρ y = .int .i64 b) (h:decide (a<b)=r) :
 (execOp ρ o).run Tryz.prog w = .ok (.value (.bool r)) w:=by
 simp only [execOp,ho,hx,hy]
 refine bK ?_
 rw [← h]
 exact bQ (by kernel_rfl) w
theorem index_26 {o:Oper} {ρ:Operand→Value} {w:World} {t:Tmp} {s:ByteArray} {c:Nat} (ho:o.op = .index 23 (.tmp t) (.const (.int .i64 0))) (hx:ρ (.tmp t) = .string s) (hy:ρ (.const (.int .i64 0)) = .int .i64 0) (hc:∃ h:0<s.size,(s[0]'h).toNat=c) :
 (execOp ρ o).run Tryz.prog w = .ok (.value (.int .u8 (c:Int))) w:=by
 obtain ⟨h,hc⟩:=hc
 simp only [execOp,ho,hx,hy]
 refine bK ?_
 have h0:¬ s.size=0:=by omega
 simp [go_sem,run_underlying Tryz.underlying23,h,h0,hc]
section
variable {f:FuncId} {w00:World} {Out:Value→World→Prop} {c:Cfg Kr}
abbrev rli (n:Int):AV Kr := .fv (.sc (.lit (.int .i64 n)))
theorem eA (t:Tmp) (T:TypeId) (hT:Tryz.prog.underlying T=some .string) (s:ByteArray) (hg:Ok Tryz.prog f w00 Out (dQ Tryz.prog 1000 (c.give (rI (s.size:Nat)))))
 (hc:(c.op.map fun o=>o.op,c.okT (rI (s.size:Nat)),c.ev (.tmp t),c.ev (.tmp t))=(some (.call ⟨.builtin .len,#[.tmp t],#[T]⟩),true,(rS s),(rS s)):=by kernel_rfl):Ok Tryz.prog f w00 Out c :=
 bF (.call ⟨.builtin .len,#[.tmp t],#[T]⟩) (.tmp t) (.tmp t) (rS s) (rS s) (rI (s.size:Nat)) hc (by simp [Op.operands,Call.operands]) (by simp [Op.operands,Call.operands]) (fun ρ o β w ho hx hy=>⟨_,rlen_run ho hT (bA hx),cW⟩) hg
theorem rgt (t:Tmp) (n a:Int) (r:Bool) (h:decide (n<a)=r) (hg:Ok Tryz.prog f w00 Out (dQ Tryz.prog 1000 (c.give (rl r))))
 (hc:(c.op.map fun o=>o.op,c.okT (rl r),c.ev (.tmp t),c.ev (.const (.int .i64 n)))=(some (.binOp .gtr 3 (.tmp t) (.const (.int .i64 n)) 3),true,(rI a),(rli n)):=by kernel_rfl):Ok Tryz.prog f w00 Out c :=
 bF (.binOp .gtr 3 (.tmp t) (.const (.int .i64 n)) 3) (.tmp t) (.const (.int .i64 n)) (rI a) (rli n) (rl r) hc (by simp [Op.operands]) (by simp [Op.operands]) (fun ρ o β w ho hx hy=>⟨_,gt_run ho (bA hx) (cC hy) h,fK rfl⟩) hg
theorem ridn (t:Tmp) (s:ByteArray) (h:∃ h:0<s.size,(s[0]'h).toNat=45) (hg:Ok Tryz.prog f w00 Out (dQ Tryz.prog 1000 (c.give (.fv (.sc (.lit (.int .u8 45)))))))
 (hc:(c.op.map fun o=>o.op,c.okT (.fv (.sc (.lit (.int .u8 45)))),c.ev (.tmp t),c.ev (.const (.int .i64 0)))=(some (.index 9 (.tmp t) (.const (.int .i64 0))),true,(rS s),(rli 0)):=by kernel_rfl):Ok Tryz.prog f w00 Out c :=
 bF (.index 9 (.tmp t) (.const (.int .i64 0))) (.tmp t) (.const (.int .i64 0)) (rS s) (rli 0) (.fv (.sc (.lit (.int .u8 45)))) hc (by simp [Op.operands]) (by simp [Op.operands]) (fun ρ o β w ho hx hy=>⟨_,index_s ho (bA hx) (cC hy) h,fK rfl⟩) hg
theorem ridp (t:Tmp) (s:ByteArray) (n:Nat) (h:∃ h:0<s.size,(s[0]'h).toNat=n) (hg:Ok Tryz.prog f w00 Out (dQ Tryz.prog 1000 (c.give (rU n))))
 (hc:(c.op.map fun o=>o.op,c.okT (rU n),c.ev (.tmp t),c.ev (.const (.int .i64 0)))=(some (.index 9 (.tmp t) (.const (.int .i64 0))),true,(rS s),(rli 0)):=by kernel_rfl):Ok Tryz.prog f w00 Out c :=
 bF (.index 9 (.tmp t) (.const (.int .i64 0))) (.tmp t) (.const (.int .i64 0)) (rS s) (rli 0) (rU n) hc (by simp [Op.operands]) (by simp [Op.operands]) (fun ρ o β w ho hx hy=>⟨_,index_s ho (bA hx) (cC hy) h,cW⟩) hg
theorem ridnR (t:Tmp) (s:ByteArray) (h:∃ h:0<s.size,(s[0]'h).toNat=45) (hg:Ok Tryz.prog f w00 Out (dQ Tryz.prog 1000 (c.give (.fv (.sc (.lit (.int .u8 45)))))))
 (hc:(c.op.map fun o=>o.op,c.okT (.fv (.sc (.lit (.int .u8 45)))),c.ev (.tmp t),c.ev (.const (.int .i64 0)))=(some (.index 23 (.tmp t) (.const (.int .i64 0))),true,(rS s),(rli 0)):=by kernel_rfl):Ok Tryz.prog f w00 Out c :=
 bF (.index 23 (.tmp t) (.const (.int .i64 0))) (.tmp t) (.const (.int .i64 0)) (rS s) (rli 0) (.fv (.sc (.lit (.int .u8 45)))) hc (by simp [Op.operands]) (by simp [Op.operands]) (fun ρ o β w ho hx hy=>⟨_,index_26 ho (bA hx) (cC hy) h,fK rfl⟩) hg
theorem ridpR (t:Tmp) (s:ByteArray) (n:Nat) (h:∃ h:0<s.size,(s[0]'h).toNat=n) (hg:Ok Tryz.prog f w00 Out (dQ Tryz.prog 1000 (c.give (rU n))))
 (hc:(c.op.map fun o=>o.op,c.okT (rU n),c.ev (.tmp t),c.ev (.const (.int .i64 0)))=(some (.index 23 (.tmp t) (.const (.int .i64 0))),true,(rS s),(rli 0)):=by kernel_rfl):Ok Tryz.prog f w00 Out c :=
 bF (.index 23 (.tmp t) (.const (.int .i64 0))) (.tmp t) (.const (.int .i64 0)) (rS s) (rli 0) (rU n) hc (by simp [Op.operands]) (by simp [Op.operands]) (fun ρ o β w ho hx hy=>⟨_,index_26 ho (bA hx) (cC hy) h,cW⟩) hg
theorem rueq (t:Tmp) (n:Nat) (h:((n:Int)==45)=false) (hg:Ok Tryz.prog f w00 Out (dQ Tryz.prog 1000 (c.give (rl false))))
 (hc:(c.op.map fun o=>o.op,c.okT (rl false),c.ev (.tmp t),c.ev (.const (.int .u8 45)))=(some (.binOp .eql 5 (.tmp t) (.const (.int .u8 45)) 5),true,(rU n),(.fv (.sc (.lit (.int .u8 45))))):=by kernel_rfl):Ok Tryz.prog f w00 Out c :=
 bF (.binOp .eql 5 (.tmp t) (.const (.int .u8 45)) 5) (.tmp t) (.const (.int .u8 45)) (rU n) (.fv (.sc (.lit (.int .u8 45)))) (rl false) hc (by simp [Op.operands]) (by simp [Op.operands]) (fun ρ o β w ho hx hy=>⟨.bool false,ueq_run ho (bA hx) (cC hy) h,fK rfl⟩) hg
theorem rshi (t i:Tmp) (T:TypeId) (hT:Tryz.prog.underlying T=some .string) (s:ByteArray) (k:Nat) (a:ByteArray) (hk:k≤s.size) (ha:s.extract 0 k=a) (hg:Ok Tryz.prog f w00 Out (dQ Tryz.prog 1000 (c.give (rS a))))
 (hc:(c.op.map fun o=>o.op,c.okT (rS a),c.ev (.tmp t),c.ev (.tmp i))=(some (.slice T (.tmp t) none (some (.tmp i)) none),true,(rS s),(rI (k:Int))):=by kernel_rfl):Ok Tryz.prog f w00 Out c :=
 bF (.slice T (.tmp t) none (some (.tmp i)) none) (.tmp t) (.tmp i) (rS s) (rI (k:Int)) (rS a) hc (by simp [Op.operands]) (by simp [Op.operands]) (fun ρ o β w ho hx hy=>⟨_,ha▸slice_hi ho hT (bA hx) (bA hy) hk,cW⟩) hg
theorem rslo (t i:Tmp) (T:TypeId) (hT:Tryz.prog.underlying T=some .string) (s:ByteArray) (k:Nat) (d:ByteArray) (hk:k≤s.size) (hd:s.extract k s.size=d) (hg:Ok Tryz.prog f w00 Out (dQ Tryz.prog 1000 (c.give (rS d))))
 (hc:(c.op.map fun o=>o.op,c.okT (rS d),c.ev (.tmp t),c.ev (.tmp i))=(some (.slice T (.tmp t) (some (.tmp i)) none none),true,(rS s),(rI (k:Int))):=by kernel_rfl):Ok Tryz.prog f w00 Out c :=
 bF (.slice T (.tmp t) (some (.tmp i)) none none) (.tmp t) (.tmp i) (rS s) (rI (k:Int)) (rS d) hc (by simp [Op.operands]) (by simp [Op.operands]) (fun ρ o β w ho hx hy=>⟨_,hd▸slice_lo ho hT (bA hx) (bA hy) hk,cW⟩) hg
theorem rsl1 (t:Tmp) (T:TypeId) (hT:Tryz.prog.underlying T=some .string) (s d:ByteArray) (hk:1≤s.size) (hd:s.extract 1 s.size=d) (hg:Ok Tryz.prog f w00 Out (dQ Tryz.prog 1000 (c.give (rS d))))
 (hc:(c.op.map fun o=>o.op,c.okT (rS d),c.ev (.tmp t),c.ev (.const (.int .i64 1)))=(some (.slice T (.tmp t) (some (.const (.int .i64 1))) none none),true,(rS s),(rli 1)):=by kernel_rfl):Ok Tryz.prog f w00 Out c :=
 bF (.slice T (.tmp t) (some (.const (.int .i64 1))) none none) (.tmp t) (.const (.int .i64 1)) (rS s) (rli 1) (rS d) hc (by simp [Op.operands]) (by simp [Op.operands]) (fun ρ o β w ho hx hy=>⟨_,hd▸slice_lo (k:=1) ho hT (bA hx) (cC hy) hk,cW⟩) hg
theorem radd (t:Tmp) (k:Nat) (h:k<9223372036854775807) (hg:Ok Tryz.prog f w00 Out (dQ Tryz.prog 1000 (c.give (rI ((k+1:Nat):Int)))))
 (hc:(c.op.map fun o=>o.op,c.okT (rI ((k+1:Nat):Int)),c.ev (.tmp t),c.ev (.const (.int .i64 1)))=(some (.binOp .add 3 (.tmp t) (.const (.int .i64 1)) 3),true,(rI (k:Int)),(rli 1)):=by kernel_rfl):Ok Tryz.prog f w00 Out c :=
 bF (.binOp .add 3 (.tmp t) (.const (.int .i64 1)) 3) (.tmp t) (.const (.int .i64 1)) (rI (k:Int)) (rli 1) (rI ((k+1:Nat):Int)) hc (by simp [Op.operands]) (by simp [Op.operands]) (fun ρ o β w ho hx hy=>⟨_,add1_run ho (bA hx) (cC hy) h,cW⟩) hg
theorem rseq (t:Tmp) (T:TypeId) (s b:ByteArray) (r:Bool) (h:(s.toList==b.toList)=r) (hg:Ok Tryz.prog f w00 Out (dQ Tryz.prog 1000 (c.give (rl r))))
 (hc:(c.op.map fun o=>o.op,c.okT (rl r),c.ev (.tmp t),c.ev (.const (.string b)))=(some (.binOp .eql T (.tmp t) (.const (.string b)) T),true,(rS s),(.fv (.sc (.lit (.string b))))):=by kernel_rfl):Ok Tryz.prog f w00 Out c :=
 bF (.binOp .eql T (.tmp t) (.const (.string b)) T) (.tmp t) (.const (.string b)) (rS s) (.fv (.sc (.lit (.string b)))) (rl r) hc (by simp [Op.operands]) (by simp [Op.operands]) (fun ρ o β w ho hx hy=>⟨_,seq_run ho (bA hx) (cC hy) h,fK rfl⟩) hg
theorem rlss (t i:Tmp) (a b:Int) (r:Bool) (h:decide (a<b)=r) (hg:Ok Tryz.prog f w00 Out (dQ Tryz.prog 1000 (c.give (rl r))))
 (hc:(c.op.map fun o=>o.op,c.okT (rl r),c.ev (.tmp t),c.ev (.tmp i))=(some (.binOp .lss 3 (.tmp t) (.tmp i) 3),true,(rI a),(rI b)):=by kernel_rfl):Ok Tryz.prog f w00 Out c :=
 bF (.binOp .lss 3 (.tmp t) (.tmp i) 3) (.tmp t) (.tmp i) (rI a) (rI b) (rl r) hc (by simp [Op.operands]) (by simp [Op.operands]) (fun ρ o β w ho hx hy=>⟨_,lss_run ho (bA hx) (bA hy) h,fK rfl⟩) hg
theorem rsub (t i:Tmp) (a b:Nat) (hle:b≤a) (ha:a≤9223372036854775807) (hg:Ok Tryz.prog f w00 Out (dQ Tryz.prog 1000 (c.give (rI ((a-b:Nat):Int)))))
 (hc:(c.op.map fun o=>o.op,c.okT (rI ((a-b:Nat):Int)),c.ev (.tmp t),c.ev (.tmp i))=(some (.binOp .sub 3 (.tmp t) (.tmp i) 3),true,(rI (a:Int)),(rI (b:Int))):=by kernel_rfl):Ok Tryz.prog f w00 Out c :=
 bF (.binOp .sub 3 (.tmp t) (.tmp i) 3) (.tmp t) (.tmp i) (rI (a:Int)) (rI (b:Int)) (rI ((a-b:Nat):Int)) hc (by simp [Op.operands]) (by simp [Op.operands]) (fun ρ o β w ho hx hy=>⟨_,subn_run ho (bA hx) (bA hy) hle ha,cW⟩) hg
end
abbrev qno:AV Kr := .tup [.sc (.lit (.int .i64 0)),.sc (.lit (.int .i64 0)),.sc (.lit (.bool false))]
section
variable {s u:ByteArray} {c:Nat}
theorem quick_long (h20:decide ((20:Int)<s.size)=true):Fits Tryz.prog 115 [rS s] qno:=by
 refine rgo Tryz.func115 (by kernel_rfl) fun w00=>?_
 refine eA 11 9 Tryz.underlying9 s ?_
 refine rgt 12 20 s.size true h20 ?_
 exact dZ Tryz.func115 (by kernel_rfl)
theorem quick_k9n (h20:decide ((20:Int)<s.size)=false) (h0:decide ((0:Int)<s.size)=true) (h1:1≤s.size) (hc:∃ h:0<s.size,(s[0]'h).toNat=45) (hext:s.extract 1 s.size=u) (hus:u.size≤s.size) (h9:decide ((9:Int)<(aI u:Nat))=true):Fits Tryz.prog 115 [rS s] qno:=by
 have hs20:s.size≤20:=by rw [decide_eq_false_iff_not] at h20;omega
 refine rgo Tryz.func115 (by kernel_rfl) fun w00=>?_
 refine eA 11 9 Tryz.underlying9 s ?_
 refine rgt 12 20 s.size false h20 ?_
 refine eA 14 9 Tryz.underlying9 s ?_
 refine rgt 15 0 s.size true h0 ?_
 refine ridn 18 s hc ?_
 refine rsl1 23 9 Tryz.underlying9 s u h1 hext ?_
 refine aM 105 [rS u] (fL (by omega)) (by kernel_rfl) Tryz.call105 ?_
 refine rgt 27 9 (aI u:Nat) true h9 ?_
 exact dZ Tryz.func115 (by kernel_rfl)
theorem quick_l10n (h20:decide ((20:Int)<s.size)=false) (h0:decide ((0:Int)<s.size)=true) (h1:1≤s.size) (hc:∃ h:0<s.size,(s[0]'h).toNat=45) (hext:s.extract 1 s.size=u) (hus:u.size≤s.size) (h9:decide ((9:Int)<(aI u:Nat))=false) (h10:decide ((10:Int)<((u.size-aI u:Nat):Int))=true):Fits Tryz.prog 115 [rS s] qno:=by
 have hs20:s.size≤20:=by rw [decide_eq_false_iff_not] at h20;omega
 refine rgo Tryz.func115 (by kernel_rfl) fun w00=>?_
 refine eA 11 9 Tryz.underlying9 s ?_
 refine rgt 12 20 s.size false h20 ?_
 refine eA 14 9 Tryz.underlying9 s ?_
 refine rgt 15 0 s.size true h0 ?_
 refine ridn 18 s hc ?_
 refine rsl1 23 9 Tryz.underlying9 s u h1 hext ?_
 refine aM 105 [rS u] (fL (by omega)) (by kernel_rfl) Tryz.call105 ?_
 refine rgt 27 9 (aI u:Nat) false h9 ?_
 refine eA 30 9 Tryz.underlying9 u ?_
 refine rsub 31 32 (u.size) (aI u) (cK _) (by omega) ?_
 refine rgt 33 10 ((u.size-aI u:Nat):Int) true h10 ?_
 exact dZ Tryz.func115 (by kernel_rfl)
theorem quick_k9p (h20:decide ((20:Int)<s.size)=false) (h0:decide ((0:Int)<s.size)=true) (hc:∃ h:0<s.size,(s[0]'h).toNat=c) (hc45:((c:Int)==45)=false) (h9:decide ((9:Int)<(aI s:Nat))=true):Fits Tryz.prog 115 [rS s] qno:=by
 have hs20:s.size≤20:=by rw [decide_eq_false_iff_not] at h20;omega
 refine rgo Tryz.func115 (by kernel_rfl) fun w00=>?_
 refine eA 11 9 Tryz.underlying9 s ?_
 refine rgt 12 20 s.size false h20 ?_
 refine eA 14 9 Tryz.underlying9 s ?_
 refine rgt 15 0 s.size true h0 ?_
 refine ridp 18 s c hc ?_
 refine rueq 19 c hc45 ?_
 refine aM 105 [rS s] (fL (by omega)) (by kernel_rfl) Tryz.call105 ?_
 refine rgt 27 9 (aI s:Nat) true h9 ?_
 exact dZ Tryz.func115 (by kernel_rfl)
theorem quick_l10p (h20:decide ((20:Int)<s.size)=false) (h0:decide ((0:Int)<s.size)=true) (hc:∃ h:0<s.size,(s[0]'h).toNat=c) (hc45:((c:Int)==45)=false) (h9:decide ((9:Int)<(aI s:Nat))=false) (h10:decide ((10:Int)<((s.size-aI s:Nat):Int))=true):Fits Tryz.prog 115 [rS s] qno:=by
 have hs20:s.size≤20:=by rw [decide_eq_false_iff_not] at h20;omega
 refine rgo Tryz.func115 (by kernel_rfl) fun w00=>?_
 refine eA 11 9 Tryz.underlying9 s ?_
 refine rgt 12 20 s.size false h20 ?_
 refine eA 14 9 Tryz.underlying9 s ?_
 refine rgt 15 0 s.size true h0 ?_
 refine ridp 18 s c hc ?_
 refine rueq 19 c hc45 ?_
 refine aM 105 [rS s] (fL (by omega)) (by kernel_rfl) Tryz.call105 ?_
 refine rgt 27 9 (aI s:Nat) false h9 ?_
 refine eA 30 9 Tryz.underlying9 s ?_
 refine rsub 31 32 (s.size) (aI s) (cK _) (by omega) ?_
 refine rgt 33 10 ((s.size-aI s:Nat):Int) true h10 ?_
 exact dZ Tryz.func115 (by kernel_rfl)
end
theorem valueF {d:ByteArray} {n:Nat} (hd:AllDig (aC d)) (hs:d.size≤17) (hn:aT (aC d)=n):Fits Tryz.prog 165 [rS d] (rI n):=by
 intro β w vs hv
 obtain ⟨v,rfl,h1⟩:=dN hv
 rw [bA h1]
 exact (value_any d w hd hs).mono fun e w' ⟨e1,e2⟩=>⟨_,e1,by rw [e2];exact Below.refl _ _,by rw [hn];exact cW⟩
theorem neg_run {o:Oper} {ρ:Operand→Value} {w:World} {x y:Operand} {a:Nat} (ho:o.op = .binOp .sub 3 x y 3) (hx:ρ x = .int .i64 0) (hy:ρ y = .int .i64 (a:Int)) (ha:a<4611686018427387904) :
 (execOp ρ o).run Tryz.prog w = .ok (.value (.int .i64 (-(a:Int)))) w:=by
 simp only [execOp,ho,hx,hy]
 refine bK ?_
 have e:IntKind.i64.wrap (0-(a:Int)) = -(a:Int):=by
  rw [IntWalk.i64_left,IntWalk.wrap64_in _ ⟨by omega,by omega⟩];omega
 rw [Int.zero_sub] at e
 simp [go_sem,e]
section
variable {s u d1 d2:ByteArray} {c n1 n2:Nat}
theorem quick_yes1n (h20:decide ((20:Int)<s.size)=false) (h0:decide ((0:Int)<s.size)=true) (h1:1≤s.size) (hc:∃ h:0<s.size,(s[0]'h).toNat=45) (hext:s.extract 1 s.size=u) (hus:u.size≤s.size) (hn1:n1<4611686018427387904) (h9:decide ((9:Int)<(aI u:Nat))=false) (h10:decide ((10:Int)<((u.size-aI u:Nat):Int))=false) (hd1:u.extract 0 (aI u)=d1) (v1:Fits Tryz.prog 165 [rS d1] (rI n1)) (hlt:decide (((aI u:Nat):Int)<(u.size:Nat))=false):Fits Tryz.prog 115 [rS s] (.tup [.sc (.sp (csIsR (.int .i64 (-(n1:Int))) rfl false (fun h=>by cases h))),.sc (.lit (.int .i64 1)),.sc (.lit (.bool true))]):=by
 have hs20:s.size≤20:=by rw [decide_eq_false_iff_not] at h20;omega
 refine rgo Tryz.func115 (by kernel_rfl) fun w00=>?_
 refine eA 11 9 Tryz.underlying9 s ?_
 refine rgt 12 20 s.size false h20 ?_
 refine eA 14 9 Tryz.underlying9 s ?_
 refine rgt 15 0 s.size true h0 ?_
 refine ridn 18 s hc ?_
 refine rsl1 23 9 Tryz.underlying9 s u h1 hext ?_
 refine aM 105 [rS u] (fL (by omega)) (by kernel_rfl) Tryz.call105 ?_
 refine rgt 27 9 (aI u:Nat) false h9 ?_
 refine eA 30 9 Tryz.underlying9 u ?_
 refine rsub 31 32 (u.size) (aI u) (cK _) (by omega) ?_
 refine rgt 33 10 ((u.size-aI u:Nat):Int) false h10 ?_
 refine rshi 36 37 9 Tryz.underlying9 u (aI u) d1 (cK _) hd1 ?_
 refine aM 165 [rS d1] v1 (by kernel_rfl) Tryz.call165 ?_
 refine eA 41 9 Tryz.underlying9 u ?_
 refine rlss 40 42 (aI u:Nat) (u.size:Nat) false hlt ?_
 refine bF (.binOp .sub 3 (.const (.int .i64 0)) (.tmp 50) 3) (.const (.int .i64 0)) (.tmp 50) (.fv (.sc (.lit (.int .i64 0)))) (rI n1) (rI (-(n1:Int))) (by kernel_rfl) (by simp [Op.operands]) (by simp [Op.operands]) (fun ρ o β w ho hx hy=>⟨_,neg_run ho (cC hx) (bA hy) hn1,cW⟩) ?_
 exact dZ Tryz.func115 (by kernel_rfl)
theorem quick_yes2n (h20:decide ((20:Int)<s.size)=false) (h0:decide ((0:Int)<s.size)=true) (h1:1≤s.size) (hc:∃ h:0<s.size,(s[0]'h).toNat=45) (hext:s.extract 1 s.size=u) (hus:u.size≤s.size) (hn1:n1<4611686018427387904) (h9:decide ((9:Int)<(aI u:Nat))=false) (h10:decide ((10:Int)<((u.size-aI u:Nat):Int))=false) (hd1:u.extract 0 (aI u)=d1) (v1:Fits Tryz.prog 165 [rS d1] (rI n1)) (hlt:decide (((aI u:Nat):Int)<(u.size:Nat))=true) (hd2:u.extract (aI u+1) u.size=d2) (v2:Fits Tryz.prog 165 [rS d2] (rI n2)):Fits Tryz.prog 115 [rS s] (.tup [.sc (.sp (csIsR (.int .i64 (-(n1:Int))) rfl false (fun h=>by cases h))),.sc (.sp (csIsR (.int .i64 (n2:Int)) rfl false (fun h=>by cases h))),.sc (.lit (.bool true))]):=by
 have hs20:s.size≤20:=by rw [decide_eq_false_iff_not] at h20;omega
 refine rgo Tryz.func115 (by kernel_rfl) fun w00=>?_
 refine eA 11 9 Tryz.underlying9 s ?_
 refine rgt 12 20 s.size false h20 ?_
 refine eA 14 9 Tryz.underlying9 s ?_
 refine rgt 15 0 s.size true h0 ?_
 refine ridn 18 s hc ?_
 refine rsl1 23 9 Tryz.underlying9 s u h1 hext ?_
 refine aM 105 [rS u] (fL (by omega)) (by kernel_rfl) Tryz.call105 ?_
 refine rgt 27 9 (aI u:Nat) false h9 ?_
 refine eA 30 9 Tryz.underlying9 u ?_
 refine rsub 31 32 (u.size) (aI u) (cK _) (by omega) ?_
 refine rgt 33 10 ((u.size-aI u:Nat):Int) false h10 ?_
 refine rshi 36 37 9 Tryz.underlying9 u (aI u) d1 (cK _) hd1 ?_
 refine aM 165 [rS d1] v1 (by kernel_rfl) Tryz.call165 ?_
 refine eA 41 9 Tryz.underlying9 u ?_
 refine rlss 40 42 (aI u:Nat) (u.size:Nat) true hlt ?_
 refine radd 45 (aI u) (by have:=cK u;omega) ?_
 refine rslo 44 46 9 Tryz.underlying9 u (aI u+1) d2 (by have:=of_decide_eq_true hlt;omega) hd2 ?_
 refine aM 165 [rS d2] v2 (by kernel_rfl) Tryz.call165 ?_
 refine bF (.binOp .sub 3 (.const (.int .i64 0)) (.tmp 50) 3) (.const (.int .i64 0)) (.tmp 50) (.fv (.sc (.lit (.int .i64 0)))) (rI n1) (rI (-(n1:Int))) (by kernel_rfl) (by simp [Op.operands]) (by simp [Op.operands]) (fun ρ o β w ho hx hy=>⟨_,neg_run ho (cC hx) (bA hy) hn1,cW⟩) ?_
 exact dZ Tryz.func115 (by kernel_rfl)
theorem quick_yes1p (h20:decide ((20:Int)<s.size)=false) (h0:decide ((0:Int)<s.size)=true) (hc:∃ h:0<s.size,(s[0]'h).toNat=c) (hc45:((c:Int)==45)=false) (h9:decide ((9:Int)<(aI s:Nat))=false) (h10:decide ((10:Int)<((s.size-aI s:Nat):Int))=false) (hd1:s.extract 0 (aI s)=d1) (v1:Fits Tryz.prog 165 [rS d1] (rI n1)) (hlt:decide (((aI s:Nat):Int)<(s.size:Nat))=false):Fits Tryz.prog 115 [rS s] (.tup [.sc (.sp (csIsR (.int .i64 (n1:Int)) rfl false (fun h=>by cases h))),.sc (.lit (.int .i64 1)),.sc (.lit (.bool true))]):=by
 have hs20:s.size≤20:=by rw [decide_eq_false_iff_not] at h20;omega
 refine rgo Tryz.func115 (by kernel_rfl) fun w00=>?_
 refine eA 11 9 Tryz.underlying9 s ?_
 refine rgt 12 20 s.size false h20 ?_
 refine eA 14 9 Tryz.underlying9 s ?_
 refine rgt 15 0 s.size true h0 ?_
 refine ridp 18 s c hc ?_
 refine rueq 19 c hc45 ?_
 refine aM 105 [rS s] (fL (by omega)) (by kernel_rfl) Tryz.call105 ?_
 refine rgt 27 9 (aI s:Nat) false h9 ?_
 refine eA 30 9 Tryz.underlying9 s ?_
 refine rsub 31 32 (s.size) (aI s) (cK _) (by omega) ?_
 refine rgt 33 10 ((s.size-aI s:Nat):Int) false h10 ?_
 refine rshi 36 37 9 Tryz.underlying9 s (aI s) d1 (cK _) hd1 ?_
 refine aM 165 [rS d1] v1 (by kernel_rfl) Tryz.call165 ?_
 refine eA 41 9 Tryz.underlying9 s ?_
 refine rlss 40 42 (aI s:Nat) (s.size:Nat) false hlt ?_
 exact dZ Tryz.func115 (by kernel_rfl)
theorem quick_yes2p (h20:decide ((20:Int)<s.size)=false) (h0:decide ((0:Int)<s.size)=true) (hc:∃ h:0<s.size,(s[0]'h).toNat=c) (hc45:((c:Int)==45)=false) (h9:decide ((9:Int)<(aI s:Nat))=false) (h10:decide ((10:Int)<((s.size-aI s:Nat):Int))=false) (hd1:s.extract 0 (aI s)=d1) (v1:Fits Tryz.prog 165 [rS d1] (rI n1)) (hlt:decide (((aI s:Nat):Int)<(s.size:Nat))=true) (hd2:s.extract (aI s+1) s.size=d2) (v2:Fits Tryz.prog 165 [rS d2] (rI n2)):Fits Tryz.prog 115 [rS s] (.tup [.sc (.sp (csIsR (.int .i64 (n1:Int)) rfl false (fun h=>by cases h))),.sc (.sp (csIsR (.int .i64 (n2:Int)) rfl false (fun h=>by cases h))),.sc (.lit (.bool true))]):=by
 have hs20:s.size≤20:=by rw [decide_eq_false_iff_not] at h20;omega
 refine rgo Tryz.func115 (by kernel_rfl) fun w00=>?_
 refine eA 11 9 Tryz.underlying9 s ?_
 refine rgt 12 20 s.size false h20 ?_
 refine eA 14 9 Tryz.underlying9 s ?_
 refine rgt 15 0 s.size true h0 ?_
 refine ridp 18 s c hc ?_
 refine rueq 19 c hc45 ?_
 refine aM 105 [rS s] (fL (by omega)) (by kernel_rfl) Tryz.call105 ?_
 refine rgt 27 9 (aI s:Nat) false h9 ?_
 refine eA 30 9 Tryz.underlying9 s ?_
 refine rsub 31 32 (s.size) (aI s) (cK _) (by omega) ?_
 refine rgt 33 10 ((s.size-aI s:Nat):Int) false h10 ?_
 refine rshi 36 37 9 Tryz.underlying9 s (aI s) d1 (cK _) hd1 ?_
 refine aM 165 [rS d1] v1 (by kernel_rfl) Tryz.call165 ?_
 refine eA 41 9 Tryz.underlying9 s ?_
 refine rlss 40 42 (aI s:Nat) (s.size:Nat) true hlt ?_
 refine radd 45 (aI s) (by have:=cK s;omega) ?_
 refine rslo 44 46 9 Tryz.underlying9 s (aI s+1) d2 (by have:=of_decide_eq_true hlt;omega) hd2 ?_
 refine aM 165 [rS d2] v2 (by kernel_rfl) Tryz.call165 ?_
 exact dZ Tryz.func115 (by kernel_rfl)
end
def Sq (q:Rat):Prop:=(decB q.num.natAbs).size≤9∧(q.den=1∨(decB q.den).size≤9)
theorem body_one {q:Rat} (h:q.den=1):aZ q=aR (q.num.natAbs:Int):=by unfold aZ;rw [if_pos h,cL]
theorem body_two {q:Rat} (h:q.den≠1):aZ q=aR (q.num.natAbs:Int)++(⟨#[47]⟩++decB q.den):=by unfold aZ;rw [if_neg h,cL]
theorem slash_body (q:Rat):aI (aZ q)=(decB q.num.natAbs).size:=by
 by_cases h:q.den=1
 ·rw [body_one h,slash_one,cL]
 ·rw [body_two h,slash_two,cL]
theorem size47:(⟨#[47]⟩:ByteArray).size=1:=rfl
theorem size45:(⟨#[45]⟩:ByteArray).size=1:=rfl
theorem body_len (q:Rat):(aZ q).size=(decB q.num.natAbs).size+if q.den=1 then 0 else 1+(decB q.den).size:=by
 by_cases h:q.den=1
 ·rw [body_one h,cL,if_pos h];rfl
 ·rw [body_two h,if_neg h,ByteArray.size_append,ByteArray.size_append,cL,size47]
theorem body_head (q:Rat):∃ c:Nat,(∃ h:0<(aZ q).size,((aZ q)[0]'h).toNat=c)∧((c:Int)==45)=false:=by
 obtain ⟨c,r,e,hc⟩:=body_list q
 have h0:0<(aZ q).size:=by
  have:(aZ q).size=(aZ q).data.toList.length:=rfl
  rw [this,e];simp
 have h1:=cU h0
 have h2:aC (aZ q)=c::r:=e
 rw [h2] at h1
 simp at h1
 refine ⟨c.toNat,⟨h0,by rw [← h1]⟩,?_⟩
 simp;omega
theorem neg_facts {q:Rat} (h:q.num<0):1≤(writeB q).size∧(∃ h:0<(writeB q).size,((writeB q)[0]'h).toNat=45)∧(writeB q).extract 1 (writeB q).size=aZ q∧(aZ q).size≤(writeB q).size∧(writeB q).size=(aZ q).size+1:=by
 have e:writeB q=⟨#[45]⟩++aZ q:=write_neg h
 have hsz:(writeB q).size=(aZ q).size+1:=by rw [e,ByteArray.size_append,size45];omega
 have h0:0<(writeB q).size:=by omega
 refine ⟨h0,⟨h0,?_⟩,?_,by omega,hsz⟩
 ·have h1:=cU h0
  have h2:aC (writeB q)=45::aC (aZ q):=by rw [e];simp [aC]
  rw [h2] at h1
  simp at h1
  rw [← h1];rfl
 ·have h2:aC (writeB q)=45::aC (aZ q):=by rw [e];simp [aC]
  have:aC ((writeB q).extract 1 (writeB q).size)=aC (aZ q):=by
   rw [aS,List.take_of_length_le (by rw [aE];exact Nat.le_refl _),h2];rfl
  exact ba_ext this
theorem quickNo {q:Rat} (hq:¬ Sq q):Fits Tryz.prog 115 [rS (writeB q)] qno:=by
 by_cases h20:20<(writeB q).size
 ·exact quick_long (by rw [decide_eq_true_iff];omega)
 have hbs:=body_len q
 have hsl:=slash_body q
 by_cases hn:q.num<0
 ·obtain ⟨f1,f2,f3,f4,f5⟩:=neg_facts hn
  by_cases h9:9<(decB q.num.natAbs).size
  ·exact quick_k9n (by rw [decide_eq_false_iff_not];omega) (by rw [decide_eq_true_iff];omega) f1 f2 f3 f4 (by rw [hsl,decide_eq_true_iff];omega)
  ·refine quick_l10n (by rw [decide_eq_false_iff_not];omega) (by rw [decide_eq_true_iff];omega) f1 f2 f3 f4 (by rw [hsl,decide_eq_false_iff_not];omega) ?_
   rw [hsl,decide_eq_true_iff,hbs]
   have hd:¬ (q.den=1∨(decB q.den).size≤9):=fun h=>hq ⟨by omega,h⟩
   rw [if_neg (fun h=>hd (.inl h))]
   have:¬ (decB q.den).size≤9:=fun h=>hd (.inr h)
   omega
 ·have hw:=eI hn
  obtain ⟨c,c1,c2⟩:=body_head q
  have h0:0<(aZ q).size:=c1.1
  rw [hw] at h20 ⊢
  by_cases h9:9<(decB q.num.natAbs).size
  ·exact quick_k9p (by rw [decide_eq_false_iff_not];omega) (by rw [decide_eq_true_iff];omega) c1 c2 (by rw [hsl,decide_eq_true_iff];omega)
  ·refine quick_l10p (by rw [decide_eq_false_iff_not];omega) (by rw [decide_eq_true_iff];omega) c1 c2 (by rw [hsl,decide_eq_false_iff_not];omega) ?_
   rw [hsl,decide_eq_true_iff,hbs]
   have hd:¬ (q.den=1∨(decB q.den).size≤9):=fun h=>hq ⟨by omega,h⟩
   rw [if_neg (fun h=>hd (.inl h))]
   have:¬ (decB q.den).size≤9:=fun h=>hd (.inr h)
   omega
def csAny:CS Kr where
 size:=1
 cold:=false
 pred cs _ := ∃ n:Int,cs = [.int .i64 n]
 stable _ _ _ h _:=h
 len cs w h:=by obtain ⟨v,e⟩:=h;rw [e];rfl
 one cs w h:=by obtain ⟨v,e⟩:=h;rw [e];intro d hd;rw [List.mem_singleton] at hd;rw [hd];rfl
 iscold h:=by cases h
abbrev qany (b:Bool):AV Kr := .tup [.sc (.sp csAny),.sc (.sp csAny),.sc (.lit (.bool b))]
theorem qany_no {β:List Nat} {v:Value} {w:World} (h:qno.holds β v w):(qany false).holds β v w:=by
 obtain ⟨vs,rfl,a,r,rfl,h1,b,r2,rfl,h2,c,r3,rfl,h3,h4⟩:=h
 exact ⟨_,rfl,a,_,rfl,⟨0,h1.1⟩,b,_,rfl,⟨0,h2.1⟩,c,_,rfl,h3,h4⟩
theorem pow_lift {a k n:Nat} (h:a<10^k) (hk:k≤n):a<B9^n :=
 Nat.lt_of_lt_of_le h (Nat.le_trans (Nat.pow_le_pow_right (by omega) hk) (Nat.pow_le_pow_left (by unfold B9;omega) _))
theorem bd_of {a k:Nat} (h:a<10^k) (hk:k≤1099511627776):Bd a:=by
 obtain ⟨n,hn⟩:∃ n,n=1099511627776:=⟨_,rfl⟩
 unfold Bd
 rw [← hn] at hk ⊢
 exact pow_lift h hk
theorem bd1_of {a k:Nat} (h:a<10^k) (hk:k≤100000000):a<B9^100000000:=by
 obtain ⟨n,hn⟩:∃ n,n=100000000:=⟨_,rfl⟩
 rw [← hn] at hk ⊢
 exact pow_lift h hk
theorem text_size {z:Int} {k:Nat} (h:z.natAbs<10^(k+1)):(aR z).size≤k+2:=by
 have:=decB_size h
 unfold aR
 split
 ·rw [ByteArray.size_append,size45];omega
 ·omega
def Zs (k:Nat) (q:Rat):Prop:=q.num.natAbs<10^(k+1)∧q.den<10^(k+1)
theorem fracW {n:Int} {d k:Nat} (hk:k≤1000000) (hn:n.natAbs<10^(k+1)) (hd:d<10^(k+1)) (h0:0<d):Fits Tryz.prog 117 [iz n,pz d] (rS (writeB (mkRat n d))):=by
 have h:=fractionF (n:=n) (d:=d) (bd_of hn (by omega)) (bd_of hd (by omega)) h0 (bd1_of hn (by omega)) (bd1_of hd (by omega))
  (by have:=text_size (k:=k) (z:=sgz (decide (n<0)) (n.natAbs/Nat.gcd n.natAbs d)) (by rw [sgz_abs];exact Nat.lt_of_le_of_lt (Nat.div_le_self _ _) hn);omega)
  (by have:=text_size (k:=k) (z:=((d/Nat.gcd n.natAbs d:Nat):Int)) (by rw [Int.natAbs_natCast];exact Nat.lt_of_le_of_lt (Nat.div_le_self _ _) hd);omega)
 rw [frac_write n h0] at h
 exact h
theorem mul_lt10 {a b k:Nat} (ha:a<10^(k+1)) (hb:b<10^(k+1)):a*b<10^(2*k+1+1):=by
 have:10^(2*k+1+1)=10^(k+1)*10^(k+1):=by rw [← Nat.pow_add];congr 1;omega
 rw [this]
 exact Nat.mul_lt_mul'' ha hb
theorem add_lt10 {a b k:Nat} (ha:a<10^(k+1)) (hb:b<10^(k+1)):a+b<10^(k+1+1):=by
 have:10^(k+1+1)=10^(k+1)*10:=Nat.pow_succ _ _
 omega
theorem zs_size {k:Nat} {q:Rat} (h:Zs k q) (hk:k≤10000):(decB q.num.natAbs).size≤100000∧(decB q.den).size≤100000:=by
 have h1:=decB_size h.1
 have h2:=decB_size h.2
 omega
section
variable {p q:Rat} {b1 b2:Bool}
theorem mulBig (hp:Zs 10000 p) (hq:Zs 10000 q) (q1:Fits Tryz.prog 115 [rS (writeB p)] (qany b1)) (q2:Fits Tryz.prog 115 [rS (writeB q)] (qany b2)) (hb:(b1&&b2)=false) :
 Fits Tryz.prog 58 [rS (writeB p),rS (writeB q)] (rS (writeB (p*q))):=by
 have hn:=mul_lt10 hp.1 hq.1
 rw [← Int.natAbs_mul] at hn
 have hd:=mul_lt10 hp.2 hq.2
 have s1:=zs_size hp (Nat.le_refl _)
 have s2:=zs_size hq (Nat.le_refl _)
 have hf:=fracW (by omega) hn hd (Nat.mul_pos p.den_pos q.den_pos)
 rw [← Rat.mul_def'] at hf
 have w1:=partsF s1.1 s1.2
 have w2:=partsF s2.1 s2.2
 have t1:=timesZ (bd_of hp.1 (by omega)) (bd_of hq.1 (by omega))
 have t2:=timesPP (bd_of hp.2 (by omega)) (bd_of hq.2 (by omega))
 generalize writeB p=s at *
 generalize writeB q=u at *
 cases b1 <;> cases b2 <;> first|cases hb|skip
 all_goals
  refine rgo Tryz.func58 (by kernel_rfl) fun w00=>?_
  refine aM 115 [rS s] q1 (by kernel_rfl) Tryz.call115 ?_
  refine aM 115 [rS u] q2 (by kernel_rfl) Tryz.call115 ?_
  refine aM 107 [rS s] w1 (by kernel_rfl) Tryz.call107 ?_
  refine aM 107 [rS u] w2 (by kernel_rfl) Tryz.call107 ?_
  refine aM 118 [iz p.num,iz q.num] t1 (by kernel_rfl) Tryz.call118 ?_
  refine aM 118 [pz p.den,pz q.den] t2 (by kernel_rfl) Tryz.call118 ?_
  refine aM 117 [iz (p.num*q.num),pz (p.den*q.den)] hf (by kernel_rfl) Tryz.call117 ?_
  exact dZ Tryz.func58 (by kernel_rfl)
theorem addBig (hp:Zs 10000 p) (hq:Zs 10000 q) (q1:Fits Tryz.prog 115 [rS (writeB p)] (qany b1)) (q2:Fits Tryz.prog 115 [rS (writeB q)] (qany b2)) (hb:(b1&&b2)=false) :
 Fits Tryz.prog 119 [rS (writeB p),rS (writeB q)] (rS (writeB (p+q))):=by
 obtain ⟨K,hK⟩:∃ K,K=10000:=⟨_,rfl⟩
 rw [← hK] at hp hq
 have hn1:(p.num*(q.den:Int)).natAbs<10^(2*K+1+1):=Nat.lt_of_le_of_lt (Nat.le_of_eq (by rw [Int.natAbs_mul,Int.natAbs_natCast])) (mul_lt10 hp.1 hq.2)
 have hn2:(q.num*(p.den:Int)).natAbs<10^(2*K+1+1):=Nat.lt_of_le_of_lt (Nat.le_of_eq (by rw [Int.natAbs_mul,Int.natAbs_natCast])) (mul_lt10 hq.1 hp.2)
 have hn:(p.num*(q.den:Int)+q.num*(p.den:Int)).natAbs<10^(2*K+1+1+1):=Nat.lt_of_le_of_lt (Int.natAbs_add_le _ _) (add_lt10 hn1 hn2)
 have hd:p.den*q.den<10^(2*K+1+1+1):=Nat.lt_of_lt_of_le (mul_lt10 hp.2 hq.2) (Nat.pow_le_pow_right (by omega) (by omega))
 have s1:=zs_size hp (by omega)
 have s2:=zs_size hq (by omega)
 have hf:=fracW (by omega) hn hd (Nat.mul_pos p.den_pos q.den_pos)
 rw [← Rat.add_def'] at hf
 have w1:=partsF s1.1 s1.2
 have w2:=partsF s2.1 s2.2
 have t1:=timesZP (a:=p.num) (b:=q.den) (bd_of hp.1 (by omega)) (bd_of hq.2 (by omega))
 have t2:=timesZP (a:=q.num) (b:=p.den) (bd_of hq.1 (by omega)) (bd_of hp.2 (by omega))
 have t3:=timesPP (bd_of hp.2 (by omega)) (bd_of hq.2 (by omega))
 have t4:=plusZ (bd_of hn1 (by omega)) (bd_of hn2 (by omega))
 generalize writeB p=s at *
 generalize writeB q=u at *
 cases b1 <;> cases b2 <;> first|cases hb|skip
 all_goals
  refine rgo Tryz.func119 (by kernel_rfl) fun w00=>?_
  refine aM 115 [rS s] q1 (by kernel_rfl) Tryz.call115 ?_
  refine aM 115 [rS u] q2 (by kernel_rfl) Tryz.call115 ?_
  refine aM 107 [rS s] w1 (by kernel_rfl) Tryz.call107 ?_
  refine aM 107 [rS u] w2 (by kernel_rfl) Tryz.call107 ?_
  refine aM 118 [iz p.num,pz q.den] t1 (by kernel_rfl) Tryz.call118 ?_
  refine aM 118 [iz q.num,pz p.den] t2 (by kernel_rfl) Tryz.call118 ?_
  refine aM 172 [iz (p.num*(q.den:Int)),iz (q.num*(p.den:Int))] t4 (by kernel_rfl) Tryz.call172 ?_
  refine aM 118 [pz p.den,pz q.den] t3 (by kernel_rfl) Tryz.call118 ?_
  refine aM 117 [iz (p.num*(q.den:Int)+q.num*(p.den:Int)),pz (p.den*q.den)] hf (by kernel_rfl) Tryz.call117 ?_
  exact dZ Tryz.func119 (by kernel_rfl)
end
end Go.Proofs.YtofcdondmgojiaaGreatDoor.Ab
namespace Go.Proofs.YtofcdondmgojiaaGreatDoor
open Go.RowKit Pl
theorem empty_app (b:ByteArray):(⟨#[]⟩:ByteArray)++b=b:=Ab.ba_ext (by simp)
set_option maxHeartbeats 2000000 in
set_option maxRecDepth 100000 in
theorem of_pos (a d:Nat) (w:World) (ha:a≤2000000000000000000) (hd:d≤1000000000000000000) (hd0:0<d) (p q g:Nat) (hg:g=Nat.gcd a d) (hp:p=a/g) (hq:q=d/g) :
 Calls Tryz.prog 116 #[.int .i64 (a:Int),.int .i64 (d:Int)] w fun e w'=>e = .returned (.string (if q=1 then Ab.decB p else Ab.decB p++⟨#[47]⟩++Ab.decB q))∧Below w.heap.size w w':=by
 have hg0:0<g:=by rw [hg];exact Nat.gcd_pos_of_pos_right _ hd0
 have hpa:p≤a:=by rw [hp];exact Nat.div_le_self _ _
 have hqd:q≤d:=by rw [hq];exact Nat.div_le_self _ _
 have hq0:0<q:=by rw [hq,hg];exact Nat.div_pos (Nat.gcd_le_right _ hd0) (Nat.gcd_pos_of_pos_right _ hd0)
 have cg:=Lib.hid (rgcd_any a d w (by omega) (by omega))
 rw [← hg] at cg
 have c1:=Lib.hid (fun W=>decimal1 p W (by omega))
 have c2:=Lib.hid (fun W=>decimal1 q W (by omega))
 have s1:(Ab.decB p).size≤19:=Ab.decB_size (k:=18) (by omega)
 have s2:(Ab.decB q).size≤19:=Ab.decB_size (k:=18) (by omega)
 have T:=Lib.hid (show wrap64 ((a:Int)/(g:Int))=(p:Int)∧wrap64 ((d:Int)/(g:Int))=(q:Int) from by
  have e1:(a:Int)/(g:Int)=(p:Int):=by rw [hp];simp
  have e2:(d:Int)/(g:Int)=(q:Int):=by rw [hq];simp
  rw [e1,e2]
  exact ⟨IntWalk.wrap64_in _ ⟨by omega,by omega⟩,IntWalk.wrap64_in _ ⟨by omega,by omega⟩⟩)
 have hz0:((g:Int)==0)=false:=by simp;omega
 have hz1:¬ (g:Int)=0:=by omega
 have hz3:((g:Int) == -1)=false:=by simp
 have b1:(a:Int)≤2000000000000000000:=by omega
 have b2:(d:Int)≤1000000000000000000:=by omega
 have b3:(p:Int)≤2000000000000000000:=by omega
 have b4:(q:Int)≤1000000000000000000:=by omega
 have b5:(1:Int)≤d:=by omega
 have b6:(1:Int)≤q:=by omega
 have HQ:=Lib.hid (And.intro hq0 (And.intro s1 s2))
 obtain ⟨res,hqq⟩:∃ res,res=(if q=1 then Ab.decB p else Ab.decB p++⟨#[47]⟩++Ab.decB q):=⟨_,rfl⟩
 rw [← hqq]
 have HQQ:=Lib.hid hqq
 clear hqq
 clear hg hp hq hpa hqd hg0 hd0 ha hd hq0 s1 s2
 go_enter Tryz.func116,Tryz.ntmps116
 go_wp2_with fail
 rw [show max (a:Int) (-(a:Int))=(a:Int) by omega]
 refine (cg.out).mono ?_
 rintro e w1 ⟨rfl,hb⟩
 go_wp2
 go_quiet (fail)
 have hb2:=cA hb nq
 clear hb
 generalize w1.drewN nq=w2 at *
 rw [T.out.1,T.out.2]
 go_wp2_with fail
 rw [show max (p:Int) (-(p:Int))=(p:Int) by omega]
 refine (c1.out _).mono ?_
 rintro e w3 ⟨rfl,rfl⟩
 obtain ⟨h0,s1,s2⟩:=HQ.out
 by_cases hq1:q=1
 ·have k1:¬ (1:Int)<q:=by omega
  have hr:=Lib.hid (HQQ.out.trans (if_pos hq1))
  clear hq1 h0 HQQ
  go_wp2
  go_ret
  have E:(⟨#[]⟩:ByteArray)++Ab.decB p=res:=by rw [hr.out];rw [empty_app]
  exact ⟨congrArg (fun s=>Ending.returned (Value.string s)) E,hb2⟩
 ·have k1:(1:Int)<q:=by omega
  have hr:=Lib.hid (HQQ.out.trans (if_neg hq1))
  clear hq1 h0 HQQ
  go_wp2_with fail
  refine (c2.out _).mono ?_
  rintro e w4 ⟨rfl,rfl⟩
  go_wp2
  go_ret
  have E:(⟨#[]⟩:ByteArray)++Ab.decB p++⟨#[47]⟩++Ab.decB q=res:=by rw [hr.out];rw [empty_app]
  exact ⟨congrArg (fun s=>Ending.returned (Value.string s)) E,hb2⟩
set_option maxHeartbeats 2000000 in
set_option maxRecDepth 100000 in
theorem of_neg (a d:Nat) (w:World) (ha0:0<a) (ha:a≤2000000000000000000) (hd:d≤1000000000000000000) (hd0:0<d) (p q g:Nat) (hg:g=Nat.gcd a d) (hp:p=a/g) (hq:q=d/g) :
 Calls Tryz.prog 116 #[.int .i64 (-(a:Int)),.int .i64 (d:Int)] w fun e w'=>e = .returned (.string (if q=1 then (⟨#[45]⟩++Ab.decB p) else (⟨#[45]⟩++Ab.decB p)++⟨#[47]⟩++Ab.decB q))∧Below w.heap.size w w':=by
 have hg0:0<g:=by rw [hg];exact Nat.gcd_pos_of_pos_right _ hd0
 have hpa:p≤a:=by rw [hp];exact Nat.div_le_self _ _
 have hqd:q≤d:=by rw [hq];exact Nat.div_le_self _ _
 have hq0:0<q:=by rw [hq,hg];exact Nat.div_pos (Nat.gcd_le_right _ hd0) (Nat.gcd_pos_of_pos_right _ hd0)
 have hp0:0<p:=by rw [hp,hg];exact Nat.div_pos (Nat.gcd_le_left _ ha0) (Nat.gcd_pos_of_pos_left _ ha0)
 have cg:=Lib.hid (rgcd_any a d w (by omega) (by omega))
 rw [← hg] at cg
 have c1:=Lib.hid (fun W=>decimal1 p W (by omega))
 have c2:=Lib.hid (fun W=>decimal1 q W (by omega))
 have s1:(Ab.decB p).size≤19:=Ab.decB_size (k:=18) (by omega)
 have s2:(Ab.decB q).size≤19:=Ab.decB_size (k:=18) (by omega)
 have T:=Lib.hid (show wrap64 (-((a:Int)/(g:Int)))=(-(p:Int))∧wrap64 ((d:Int)/(g:Int))=(q:Int) from by
  have e1:(a:Int)/(g:Int)=(p:Int):=by rw [hp];simp
  have e2:(d:Int)/(g:Int)=(q:Int):=by rw [hq];simp
  rw [e1,e2]
  exact ⟨IntWalk.wrap64_in _ ⟨by omega,by omega⟩,IntWalk.wrap64_in _ ⟨by omega,by omega⟩⟩)
 have hz0:((g:Int)==0)=false:=by simp;omega
 have hz1:¬ (g:Int)=0:=by omega
 have hz3:((g:Int) == -1)=false:=by simp
 have b1:(a:Int)≤2000000000000000000:=by omega
 have b2:(d:Int)≤1000000000000000000:=by omega
 have b3:(p:Int)≤2000000000000000000:=by omega
 have b4:(q:Int)≤1000000000000000000:=by omega
 have b5:(1:Int)≤d:=by omega
 have b6:(1:Int)≤q:=by omega
 have b7:(1:Int)≤a:=by omega
 have b8:(1:Int)≤p:=by omega
 have HQ:=Lib.hid (And.intro hq0 (And.intro s1 s2))
 obtain ⟨res,hqq⟩:∃ res,res=(if q=1 then (⟨#[45]⟩++Ab.decB p) else (⟨#[45]⟩++Ab.decB p)++⟨#[47]⟩++Ab.decB q):=⟨_,rfl⟩
 rw [← hqq]
 have HQQ:=Lib.hid hqq
 clear hqq
 clear hg hp hq hpa hqd hg0 hd0 ha hd hq0 s1 s2
 go_enter Tryz.func116,Tryz.ntmps116
 go_wp2_with fail
 rw [show max (-(a:Int)) (a:Int)=(a:Int) by omega]
 refine (cg.out).mono ?_
 rintro e w1 ⟨rfl,hb⟩
 go_wp2
 go_quiet (fail)
 have hb2:=cA hb nq
 clear hb
 generalize w1.drewN nq=w2 at *
 rw [T.out.1,T.out.2]
 go_wp2_with fail
 rw [show max (-(p:Int)) (p:Int)=(p:Int) by omega]
 refine (c1.out _).mono ?_
 rintro e w3 ⟨rfl,rfl⟩
 obtain ⟨h0,s1,s2⟩:=HQ.out
 by_cases hq1:q=1
 ·have k1:¬ (1:Int)<q:=by omega
  have hr:=Lib.hid (HQQ.out.trans (if_pos hq1))
  clear hq1 h0 HQQ
  go_wp2
  go_ret
  have E:(⟨#[45]⟩:ByteArray)++Ab.decB p=res:=by rw [hr.out]
  exact ⟨congrArg (fun s=>Ending.returned (Value.string s)) E,hb2⟩
 ·have k1:(1:Int)<q:=by omega
  have hr:=Lib.hid (HQQ.out.trans (if_neg hq1))
  clear hq1 h0 HQQ
  go_wp2_with fail
  refine (c2.out _).mono ?_
  rintro e w4 ⟨rfl,rfl⟩
  go_wp2
  go_ret
  have E:(⟨#[45]⟩:ByteArray)++Ab.decB p++⟨#[47]⟩++Ab.decB q=res:=by rw [hr.out]
  exact ⟨congrArg (fun s=>Ending.returned (Value.string s)) E,hb2⟩
end Go.Proofs.YtofcdondmgojiaaGreatDoor
namespace Go.Proofs.YtofcdondmgojiaaGreatDoor.Ab
open Go.RowKit Go.Proofs.YtofcdondmgojiaaGreatDoor Pl
def zeroT:ByteArray:=⟨#[48]⟩
def oneT:ByteArray:=⟨#[49]⟩
def decF (s:ByteArray):Bool:=if s.size=0 then false else if 1<s.size∧(aC s).head?=some 48 then false else dY s
theorem decF_of {s:ByteArray} (h:decF s=true):s=decB (aT (aC s)):=by
 unfold decF at h
 split at h
 ·cases h
 ·split at h
  ·cases h
  ·rename_i h0 h1
   have hd:=digitsB_iff.1 h
   refine ba_ext ?_
   rw [dH]
   refine (dec_natOf (aC s).length (aC s) rfl hd ?_ ?_).symm
   ·intro e;apply h0;rw [← aE,e];rfl
   ·by_cases hl:(aC s).length=1
    ·exact .inl hl
    ·right;intro e;apply h1
     refine ⟨?_,e⟩
     rw [aE] at hl
     omega
def negB (s:ByteArray):Bool:=(aC s).head?==some 45
def bG (s:ByteArray):ByteArray:=if negB s=true then s.extract 1 s.size else s
def bX (s:ByteArray):Int :=
 if decF ((bG s).extract 0 (aI (bG s)))=false∨(negB s=true∧(bG s).extract 0 (aI (bG s))=zeroT) then 1
 else if aI (bG s)<(bG s).size∧(decF ((bG s).extract (aI (bG s)+1) (bG s).size)=false∨(bG s).extract (aI (bG s)+1) (bG s).size=zeroT∨(bG s).extract (aI (bG s)+1) (bG s).size=oneT) then 1
 else if 600<aI (bG s)∨600<(bG s).size-aI (bG s)-1 then 4
 else if aI (bG s)<(bG s).size∧Nat.gcd (aT (aC ((bG s).extract 0 (aI (bG s))))) (aT (aC ((bG s).extract (aI (bG s)+1) (bG s).size)))≠1 then 1 else 0
theorem decB_inj {n m:Nat} (h:decB n=decB m):n=m:=by rw [← decB_nat n,h,decB_nat]
theorem ext_all (s:ByteArray):s.extract 0 s.size=s:=by
 refine ba_ext ?_
 show aC (s.extract 0 s.size)=aC s
 rw [aS,List.drop_zero,List.take_of_length_le (by rw [aE];exact Nat.le_refl _)]
theorem slash_split {s:ByteArray} (h:aI s<s.size):s=s.extract 0 (aI s)++(⟨#[47]⟩++s.extract (aI s+1) s.size):=by
 refine ba_ext ?_
 show aC s=aC _
 have e1:aC (s.extract 0 (aI s)++(⟨#[47]⟩++s.extract (aI s+1) s.size))=aC (s.extract 0 (aI s))++(47::aC (s.extract (aI s+1) s.size)):=by simp [aC]
 have e2:(aC s).take s.size=aC s:=List.take_of_length_le (by rw [aE];exact Nat.le_refl _)
 rw [e1,aS,aS,List.drop_zero,e2]
 have hl:aI s<(aC s).length:=by rw [aE];exact h
 have hk:(aC s)[aI s]'hl=47:=by
  have:=List.findIdx_getElem (xs:=aC s) (p:=fun c=>c==47) (w:=hl)
  exact eq_of_beq this
 conv=>lhs;rw [← List.take_append_drop (aI s) (aC s),List.drop_eq_getElem_cons hl,hk]
theorem neg_split {s:ByteArray} (h:negB s=true):s=⟨#[45]⟩++bG s:=by
 have hh:(aC s).head?=some 45:=eq_of_beq h
 refine ba_ext ?_
 show aC s=aC _
 unfold bG
 rw [if_pos h]
 have e1:aC (⟨#[45]⟩++s.extract 1 s.size)=45::aC (s.extract 1 s.size):=by simp [aC]
 rw [e1,aS,List.take_of_length_le (by rw [aE];exact Nat.le_refl _)]
 generalize aC s=l at hh ⊢
 cases l with
 | nil=>cases hh
 | cons c r =>
   injection hh with hh
   rw [hh];rfl
theorem strip_write (q:Rat):negB (writeB q)=decide (q.num<0)∧bG (writeB q)=aZ q:=by
 by_cases hn:q.num<0
 ·obtain ⟨f1,⟨h0,hc⟩,f3,f4,f5⟩:=neg_facts hn
  have e:negB (writeB q)=true:=by
   unfold negB
   have h2:aC (writeB q)=45::aC (aZ q):=by rw [write_neg hn];simp [aC]
   rw [h2];rfl
  refine ⟨by rw [e,decide_eq_true hn],?_⟩
  unfold bG
  rw [if_pos e,f3]
 ·have e:negB (writeB q)=false:=by
   unfold negB
   obtain ⟨c,r,h1,h2⟩:=body_list q
   have h3:aC (aZ q)=c::r:=h1
   rw [eI hn,h3]
   show (some c==some 45)=false
   rw [beq_eq_false_iff_ne]
   intro h
   injection h with h
   rw [h] at h2
   exact absurd h2 (by decide)
  refine ⟨by rw [e,decide_eq_false hn],?_⟩
  unfold bG
  rw [if_neg (by rw [e];exact Bool.false_ne_true),eI hn]
theorem body_cut (q:Rat):(aZ q).extract 0 (aI (aZ q))=decB q.num.natAbs∧(q.den≠1→(aZ q).extract (aI (aZ q)+1) (aZ q).size=decB q.den)∧(aI (aZ q)<(aZ q).size↔q.den≠1):=by
 have hsl:=slash_body q
 have hsz:=body_len q
 refine ⟨?_,fun hd=>?_,?_⟩
 ·rw [hsl]
  by_cases h:q.den=1
  ·rw [body_one h,cL,ext_all]
  ·rw [body_two h,cL,ext_lo]
 ·rw [hsl,body_two hd,cL]
  exact ext_hi _ _
 ·rw [hsl,hsz]
  by_cases h:q.den=1
  ·rw [if_pos h];simp [h]
  ·rw [if_neg h];simp [h];omega
theorem check_zero {s:ByteArray} (h:bX s=0):∃ q:Rat,s=writeB q∧(decB q.num.natAbs).size≤600∧(decB q.den).size≤600:=by
 unfold bX at h
 split at h
 ·exact absurd h (by decide)
 rename_i g1
 split at h
 ·exact absurd h (by decide)
 rename_i g2
 split at h
 ·exact absurd h (by decide)
 rename_i g3
 split at h
 ·exact absurd h (by decide)
 rename_i g4
 clear h
 obtain ⟨t,ht⟩:∃ t,t=bG s:=⟨_,rfl⟩
 rw [← ht] at g1 g2 g3 g4
 obtain ⟨k,hk⟩:∃ k,k=aI t:=⟨_,rfl⟩
 rw [← hk] at g1 g2 g3 g4
 have ha:decF (t.extract 0 k)=true:=by
  cases e:decF (t.extract 0 k) with
  | true=>rfl
  | false=>exact absurd (.inl e) g1
 have hz:negB s=true→t.extract 0 k≠zeroT:=fun e1 e2=>g1 (.inr ⟨e1,e2⟩)
 have hae:=decF_of ha
 obtain ⟨n,hn⟩:∃ n,n=aT (aC (t.extract 0 k)):=⟨_,rfl⟩
 rw [← hn] at hae g4
 have hkl:k≤t.size:=by rw [hk];exact cK t
 have hasz:(decB n).size=k:=by rw [← hae,ByteArray.size_extract];omega
 have hn0:negB s=true→n≠0:=by
  intro e1 e2
  apply hz e1
  rw [hae,e2,dec0];rfl
 obtain ⟨z,hz1,hz2⟩:∃ z:Int,z.natAbs=n∧decide (z<0)=negB s:=by
  cases e:negB s with
  | true=>exact ⟨-(n:Int),by simp,by have:=hn0 e;rw [decide_eq_true_iff];omega⟩
  | false=>exact ⟨(n:Int),by simp,by rw [decide_eq_false_iff_not];omega⟩
 have fin:∀ q:Rat,q.num=z→aZ q=t→s=writeB q:=by
  intro q e1 e2
  by_cases hneg:negB s=true
  ·have:q.num<0:=by rw [e1];exact of_decide_eq_true (hz2.trans hneg)
   rw [write_neg this,e2,ht]
   exact neg_split hneg
  ·have h0:negB s=false:=by cases e:negB s with
    | true=>exact absurd e hneg
    | false=>rfl
   have:¬ q.num<0:=by rw [e1];exact of_decide_eq_false (hz2.trans h0)
   rw [eI this,e2,ht]
   unfold bG
   rw [if_neg hneg]
 by_cases hlt:k<t.size
 ·have hd:decF (t.extract (k+1) t.size)=true:=by
   cases e:decF (t.extract (k+1) t.size) with
   | true=>rfl
   | false=>exact absurd ⟨hlt,.inl e⟩ g2
  have hde:=decF_of hd
  obtain ⟨m,hm⟩:∃ m,m=aT (aC (t.extract (k+1) t.size)):=⟨_,rfl⟩
  rw [← hm] at hde g4
  have hm0:m≠0:=by
   intro e
   exact g2 ⟨hlt,.inr (.inl (by rw [hde,e,dec0];rfl))⟩
  have hm1:m≠1:=by
   intro e
   exact g2 ⟨hlt,.inr (.inr (by rw [hde,e,dec1];rfl))⟩
  have hg:Nat.gcd n m=1:=by
   by_cases e:Nat.gcd n m=1
   ·exact e
   ·exact absurd ⟨hlt,e⟩ g4
  obtain ⟨p1,p2⟩:=mk_parts z hm0
  rw [hz1,hg] at p1 p2
  have q1:(mkRat z m).num=z:=by rw [p1];simp
  have q2:(mkRat z m).den=m:=by rw [p2];simp
  refine ⟨mkRat z m,fin _ q1 ?_,by rw [q1,hz1,hasz];omega,?_⟩
  ·rw [body_two (by rw [q2];exact hm1),cL,q1,hz1,q2,← hae,← hde,hk]
   exact (slash_split (hk▸hlt)).symm
  ·rw [q2,← hde,ByteArray.size_extract];omega
 ·have hkt:k=t.size:=by omega
  have q1:((z:Int):Rat).num=z:=rfl
  have q2:((z:Int):Rat).den=1:=rfl
  refine ⟨(z:Rat),fin _ q1 ?_,by rw [q1,hz1,hasz];omega,by rw [q2,dec1];decide⟩
  rw [body_one q2,cL,q1,hz1,← hae,hkt,ext_all]
theorem mul_run {o:Oper} {ρ:Operand→Value} {w:World} {x y:Operand} {a b:Int} (ho:o.op = .binOp .mul 3 x y 3) (hx:ρ x = .int .i64 a) (hy:ρ y = .int .i64 b) (h:-9223372036854775808≤a*b∧a*b≤9223372036854775807) :
 (execOp ρ o).run Tryz.prog w = .ok (.value (.int .i64 (a*b))) w:=by
 simp only [execOp,ho,hx,hy]
 refine bK ?_
 have e:IntKind.i64.wrap (a*b)=a*b:=by rw [IntWalk.i64_left,IntWalk.wrap64_in _ h]
 simp [go_sem,e]
theorem addi_run {o:Oper} {ρ:Operand→Value} {w:World} {x y:Operand} {a b:Int} (ho:o.op = .binOp .add 3 x y 3) (hx:ρ x = .int .i64 a) (hy:ρ y = .int .i64 b) (h:-9223372036854775808≤a+b∧a+b≤9223372036854775807) :
 (execOp ρ o).run Tryz.prog w = .ok (.value (.int .i64 (a+b))) w:=by
 simp only [execOp,ho,hx,hy]
 refine bK ?_
 have e:IntKind.i64.wrap (a+b)=a+b:=by rw [IntWalk.i64_left,IntWalk.wrap64_in _ h]
 simp [go_sem,e]
theorem dec_lt {n k:Nat} (h:(decB n).size≤k):n<10^k:=by
 have:=natOf_lt (decB_dig n)
 rw [decB_nat,aE] at this
 exact Nat.lt_of_lt_of_le this (Nat.pow_le_pow_right (by omega) h)
abbrev qy (q:Rat):AV Kr := .tup [.sc (.sp (csIsR (.int .i64 q.num) rfl false (fun h=>by cases h))),.sc (.sp (csIsR (.int .i64 (q.den:Int)) rfl false (fun h=>by cases h))),.sc (.lit (.bool true))]
theorem qany_yes {q:Rat} {β:List Nat} {v:Value} {w:World} (h:(qy q).holds β v w):(qany true).holds β v w:=by
 obtain ⟨vs,rfl,a,r,rfl,h1,b,r2,rfl,h2,c,r3,rfl,h3,h4⟩:=h
 exact ⟨_,rfl,a,_,rfl,⟨q.num,h1⟩,b,_,rfl,⟨(q.den:Int),h2⟩,c,_,rfl,h3,h4⟩
theorem to_qy1 {q:Rat} {n:Int} (hn:n=q.num) (hd:q.den=1) {β:List Nat} {v:Value} {w:World} (h:(AV.tup [.sc (.sp (csIsR (.int .i64 n) rfl false (fun h=>by cases h))),.sc (.lit (.int .i64 1)),.sc (.lit (.bool true))]:AV Kr).holds β v w):(qy q).holds β v w:=by
 subst hn
 obtain ⟨vs,rfl,a,r,rfl,h1,b,r2,rfl,h2,c,r3,rfl,h3,h4⟩:=h
 have e:[b] = [.int .i64 1]:=h2.1
 exact ⟨_,rfl,a,_,rfl,h1,b,_,rfl,(by show [b] = [Value.int .i64 (q.den:Int)];rw [hd];exact e),c,_,rfl,h3,h4⟩
theorem to_qy2 {q:Rat} {n:Int} {d:Nat} (hn:n=q.num) (hd:d=q.den) {β:List Nat} {v:Value} {w:World} (h:(AV.tup [.sc (.sp (csIsR (.int .i64 n) rfl false (fun h=>by cases h))),.sc (.sp (csIsR (.int .i64 (d:Int)) rfl false (fun h=>by cases h))),.sc (.lit (.bool true))]:AV Kr).holds β v w):(qy q).holds β v w:=by
 subst hn
 subst hd
 exact h
theorem quickYes {q:Rat} (hq:Sq q):Fits Tryz.prog 115 [rS (writeB q)] (qy q):=by
 have hbs:=body_len q
 have hsl:=slash_body q
 obtain ⟨k1,k2,k3⟩:=body_cut q
 have n9:=dec_lt hq.1
 have hs9:=hq.1
 have h100:(10:Nat)^9=1000000000:=by decide
 have v1:=valueF (d:=decB q.num.natAbs) (n:=q.num.natAbs) (decB_dig _) (by omega) (decB_nat _)
 by_cases hn:q.num<0
 ·obtain ⟨f1,f2,f3,f4,f5⟩:=neg_facts hn
  have e1:-(q.num.natAbs:Int)=q.num:=by omega
  by_cases hd:q.den=1
  ·rw [if_pos hd] at hbs
   refine rres (quick_yes1n (u:=aZ q) (d1:=decB q.num.natAbs) (n1:=q.num.natAbs) ?_ ?_ f1 f2 f3 f4 (by omega) ?_ ?_ k1 v1 ?_) (fun β v w h=>to_qy1 e1 hd h)
   ·rw [decide_eq_false_iff_not];omega
   ·rw [decide_eq_true_iff];omega
   ·rw [hsl,decide_eq_false_iff_not];omega
   ·rw [hsl,decide_eq_false_iff_not];omega
   ·rw [hsl,decide_eq_false_iff_not];omega
  ·rw [if_neg hd] at hbs
   have hd9:(decB q.den).size≤9:=by rcases hq.2 with h|h;exact absurd h hd;exact h
   have v2:=valueF (d:=decB q.den) (n:=q.den) (decB_dig _) (by omega) (decB_nat _)
   refine rres (quick_yes2n (u:=aZ q) (d1:=decB q.num.natAbs) (d2:=decB q.den) (n1:=q.num.natAbs) (n2:=q.den) ?_ ?_ f1 f2 f3 f4 (by omega) ?_ ?_ k1 v1 ?_ (k2 hd) v2) (fun β v w h=>to_qy2 e1 rfl h)
   ·rw [decide_eq_false_iff_not];omega
   ·rw [decide_eq_true_iff];omega
   ·rw [hsl,decide_eq_false_iff_not];omega
   ·rw [hsl,decide_eq_false_iff_not];omega
   ·rw [hsl,decide_eq_true_iff];omega
 ·have hw:=eI hn
  obtain ⟨c,c1,c2⟩:=body_head q
  have h0:0<(aZ q).size:=c1.1
  have e1:(q.num.natAbs:Int)=q.num:=by omega
  rw [hw]
  by_cases hd:q.den=1
  ·rw [if_pos hd] at hbs
   refine rres (quick_yes1p (s:=aZ q) (d1:=decB q.num.natAbs) (n1:=q.num.natAbs) ?_ ?_ c1 c2 ?_ ?_ k1 v1 ?_) (fun β v w h=>to_qy1 e1 hd h)
   ·rw [decide_eq_false_iff_not];omega
   ·rw [decide_eq_true_iff];omega
   ·rw [hsl,decide_eq_false_iff_not];omega
   ·rw [hsl,decide_eq_false_iff_not];omega
   ·rw [hsl,decide_eq_false_iff_not];omega
  ·rw [if_neg hd] at hbs
   have hd9:(decB q.den).size≤9:=by rcases hq.2 with h|h;exact absurd h hd;exact h
   have v2:=valueF (d:=decB q.den) (n:=q.den) (decB_dig _) (by omega) (decB_nat _)
   refine rres (quick_yes2p (s:=aZ q) (d1:=decB q.num.natAbs) (d2:=decB q.den) (n1:=q.num.natAbs) (n2:=q.den) ?_ ?_ c1 c2 ?_ ?_ k1 v1 ?_ (k2 hd) v2) (fun β v w h=>to_qy2 e1 rfl h)
   ·rw [decide_eq_false_iff_not];omega
   ·rw [decide_eq_true_iff];omega
   ·rw [hsl,decide_eq_false_iff_not];omega
   ·rw [hsl,decide_eq_false_iff_not];omega
   ·rw [hsl,decide_eq_true_iff];omega
theorem ofF {n:Int} {d:Nat} (hn:n.natAbs≤2000000000000000000) (hd:d≤1000000000000000000) (h0:0<d):Fits Tryz.prog 116 [rI n,rI (d:Int)] (rS (writeB (mkRat n d))):=by
 intro β w vs hv
 obtain ⟨v,u,rfl,h1,h2⟩:=eN hv
 rw [bA h1,bA h2]
 have hw:=frac_write n h0
 by_cases hneg:n<0
 ·have e:n = -(n.natAbs:Int):=by omega
  have h:=of_neg n.natAbs d w (by omega) hn hd h0 _ _ _ rfl rfl rfl
  have hp0:0<n.natAbs/Nat.gcd n.natAbs d:=Nat.div_pos (Nat.gcd_le_left _ (by omega)) (Nat.gcd_pos_of_pos_right _ h0)
  have et:aR (sgz (decide (n<0)) (n.natAbs/Nat.gcd n.natAbs d))=⟨#[45]⟩++decB (n.natAbs/Nat.gcd n.natAbs d):=by
   rw [decide_eq_true hneg]
   generalize n.natAbs/Nat.gcd n.natAbs d=m at hp0
   show aR (-(m:Int))=_
   unfold aR
   rw [if_pos (by omega)]
   simp
  rw [et,cL] at hw
  rw [← e,hw] at h
  exact h.mono fun e w' ⟨e1,e2⟩=>⟨_,e1,e2,cW⟩
 ·have e:n=(n.natAbs:Int):=by omega
  have h:=of_pos n.natAbs d w hn hd h0 _ _ _ rfl rfl rfl
  have et:aR (sgz (decide (n<0)) (n.natAbs/Nat.gcd n.natAbs d))=decB (n.natAbs/Nat.gcd n.natAbs d):=by
   rw [decide_eq_false hneg]
   exact cL _
  rw [et,cL] at hw
  rw [← e,hw] at h
  exact h.mono fun e w' ⟨e1,e2⟩=>⟨_,e1,e2,cW⟩
section
variable {p q:Rat}
theorem sq_lt (h:Sq q):q.num.natAbs<1000000000∧q.den<1000000000:=by
 have h100:(10:Nat)^9=1000000000:=by decide
 refine ⟨by rw [← h100];exact dec_lt h.1,?_⟩
 rcases h.2 with h|h
 ·omega
 ·rw [← h100];exact dec_lt h
theorem nat_mul_lt {a b:Nat} (ha:a<1000000000) (hb:b<1000000000):a*b<1000000000000000000:=Nat.mul_lt_mul'' ha hb
theorem int_mul_in {a b:Int} (ha:a.natAbs<1000000000) (hb:b.natAbs<1000000000):(a*b).natAbs<1000000000000000000:=by rw [Int.natAbs_mul];exact nat_mul_lt ha hb
theorem mulS (hp:Sq p) (hq:Sq q):Fits Tryz.prog 58 [rS (writeB p),rS (writeB q)] (rS (writeB (p*q))):=by
 obtain ⟨a1,a2⟩:=sq_lt hp
 obtain ⟨b1,b2⟩:=sq_lt hq
 have m1:=int_mul_in a1 b1
 have m2:=nat_mul_lt a2 b2
 have hof:=ofF (n:=p.num*q.num) (d:=p.den*q.den) (by omega) (by omega) (Nat.mul_pos p.den_pos q.den_pos)
 rw [← Rat.mul_def',Int.natCast_mul] at hof
 have m3:((p.den:Int)*(q.den:Int))<1000000000000000000:=by rw [← Int.natCast_mul];omega
 have m4:0≤((p.den:Int)*(q.den:Int)):=by rw [← Int.natCast_mul];omega
 have q1:=quickYes hp
 have q2:=quickYes hq
 generalize writeB p=s at *
 generalize writeB q=u at *
 refine rgo Tryz.func58 (by kernel_rfl) fun w00=>?_
 refine aM 115 [rS s] q1 (by kernel_rfl) Tryz.call115 ?_
 refine aM 115 [rS u] q2 (by kernel_rfl) Tryz.call115 ?_
 refine bF (.binOp .mul 3 (.tmp 31) (.tmp 32) 3) (.tmp 31) (.tmp 32) (rI p.num) (rI q.num) (rI (p.num*q.num)) (by kernel_rfl) (by simp [Op.operands]) (by simp [Op.operands]) (fun ρ o β w ho hx hy=>⟨_,mul_run ho (bA hx) (bA hy) (by omega),cW⟩) ?_
 refine bF (.binOp .mul 3 (.tmp 34) (.tmp 35) 3) (.tmp 34) (.tmp 35) (rI (p.den:Int)) (rI (q.den:Int)) (rI ((p.den:Int)*(q.den:Int))) (by kernel_rfl) (by simp [Op.operands]) (by simp [Op.operands]) (fun ρ o β w ho hx hy=>⟨_,mul_run ho (bA hx) (bA hy) (by omega),cW⟩) ?_
 refine aM 116 [rI (p.num*q.num),rI ((p.den:Int)*(q.den:Int))] hof (by kernel_rfl) Tryz.call116 ?_
 exact dZ Tryz.func58 (by kernel_rfl)
theorem addS (hp:Sq p) (hq:Sq q):Fits Tryz.prog 119 [rS (writeB p),rS (writeB q)] (rS (writeB (p+q))):=by
 obtain ⟨a1,a2⟩:=sq_lt hp
 obtain ⟨b1,b2⟩:=sq_lt hq
 have m1:(p.num*(q.den:Int)).natAbs<1000000000000000000:=int_mul_in a1 (by omega)
 have m5:(q.num*(p.den:Int)).natAbs<1000000000000000000:=int_mul_in b1 (by omega)
 have m2:=nat_mul_lt a2 b2
 have hof:=ofF (n:=p.num*(q.den:Int)+q.num*(p.den:Int)) (d:=p.den*q.den) (by omega) (by omega) (Nat.mul_pos p.den_pos q.den_pos)
 rw [← Rat.add_def',Int.natCast_mul] at hof
 have m3:((p.den:Int)*(q.den:Int))<1000000000000000000:=by rw [← Int.natCast_mul];omega
 have m4:0≤((p.den:Int)*(q.den:Int)):=by rw [← Int.natCast_mul];omega
 have q1:=quickYes hp
 have q2:=quickYes hq
 generalize writeB p=s at *
 generalize writeB q=u at *
 refine rgo Tryz.func119 (by kernel_rfl) fun w00=>?_
 refine aM 115 [rS s] q1 (by kernel_rfl) Tryz.call115 ?_
 refine aM 115 [rS u] q2 (by kernel_rfl) Tryz.call115 ?_
 refine bF (.binOp .mul 3 (.tmp 31) (.tmp 32) 3) (.tmp 31) (.tmp 32) (rI p.num) (rI (q.den:Int)) (rI (p.num*(q.den:Int))) (by kernel_rfl) (by simp [Op.operands]) (by simp [Op.operands]) (fun ρ o β w ho hx hy=>⟨_,mul_run ho (bA hx) (bA hy) (by omega),cW⟩) ?_
 refine bF (.binOp .mul 3 (.tmp 34) (.tmp 35) 3) (.tmp 34) (.tmp 35) (rI q.num) (rI (p.den:Int)) (rI (q.num*(p.den:Int))) (by kernel_rfl) (by simp [Op.operands]) (by simp [Op.operands]) (fun ρ o β w ho hx hy=>⟨_,mul_run ho (bA hx) (bA hy) (by omega),cW⟩) ?_
 refine bF (.binOp .add 3 (.tmp 33) (.tmp 36) 3) (.tmp 33) (.tmp 36) (rI (p.num*(q.den:Int))) (rI (q.num*(p.den:Int))) (rI (p.num*(q.den:Int)+q.num*(p.den:Int))) (by kernel_rfl) (by simp [Op.operands]) (by simp [Op.operands]) (fun ρ o β w ho hx hy=>⟨_,addi_run ho (bA hx) (bA hy) (by omega),cW⟩) ?_
 refine bF (.binOp .mul 3 (.tmp 38) (.tmp 39) 3) (.tmp 38) (.tmp 39) (rI (p.den:Int)) (rI (q.den:Int)) (rI ((p.den:Int)*(q.den:Int))) (by kernel_rfl) (by simp [Op.operands]) (by simp [Op.operands]) (fun ρ o β w ho hx hy=>⟨_,mul_run ho (bA hx) (bA hy) (by omega),cW⟩) ?_
 refine aM 116 [rI (p.num*(q.den:Int)+q.num*(p.den:Int)),rI ((p.den:Int)*(q.den:Int))] hof (by kernel_rfl) Tryz.call116 ?_
 exact dZ Tryz.func119 (by kernel_rfl)
theorem refMulF (hp:Zs 10000 p) (hq:Zs 10000 q):Fits Tryz.prog 58 [rS (writeB p),rS (writeB q)] (rS (writeB (p*q))):=by
 by_cases h1:Sq p
 ·by_cases h2:Sq q
  ·exact mulS h1 h2
  ·exact mulBig hp hq (rres (quickYes h1) fun _ _ _=>qany_yes) (rres (quickNo h2) fun _ _ _=>qany_no) rfl
 ·by_cases h2:Sq q
  ·exact mulBig hp hq (rres (quickNo h1) fun _ _ _=>qany_no) (rres (quickYes h2) fun _ _ _=>qany_yes) rfl
  ·exact mulBig hp hq (rres (quickNo h1) fun _ _ _=>qany_no) (rres (quickNo h2) fun _ _ _=>qany_no) rfl
theorem refAddF (hp:Zs 10000 p) (hq:Zs 10000 q):Fits Tryz.prog 119 [rS (writeB p),rS (writeB q)] (rS (writeB (p+q))):=by
 by_cases h1:Sq p
 ·by_cases h2:Sq q
  ·exact addS h1 h2
  ·exact addBig hp hq (rres (quickYes h1) fun _ _ _=>qany_yes) (rres (quickNo h2) fun _ _ _=>qany_no) rfl
 ·by_cases h2:Sq q
  ·exact addBig hp hq (rres (quickNo h1) fun _ _ _=>qany_no) (rres (quickYes h2) fun _ _ _=>qany_yes) rfl
  ·exact addBig hp hq (rres (quickNo h1) fun _ _ _=>qany_no) (rres (quickNo h2) fun _ _ _=>qany_no) rfl
end
theorem sub1_run {o:Oper} {ρ:Operand→Value} {w:World} {x y:Operand} {a:Nat} (ho:o.op = .binOp .sub 3 x y 3) (hx:ρ x = .int .i64 (a:Int)) (hy:ρ y = .int .i64 1) (ha:a≤9223372036854775807) :
 (execOp ρ o).run Tryz.prog w = .ok (.value (.int .i64 ((a:Int)-1))) w:=by
 simp only [execOp,ho,hx,hy]
 refine bK ?_
 have e:IntKind.i64.wrap ((a:Int)-1)=(a:Int)-1:=by
  rw [IntWalk.i64_left,IntWalk.wrap64_in _ ⟨by omega,by omega⟩]
 simp [go_sem,e]
theorem ine_run {o:Oper} {ρ:Operand→Value} {w:World} {x y:Operand} {a b:Int} {r:Bool} (ho:o.op = .binOp .neq 3 x y 3) (hx:ρ x = .int .i64 a) (hy:ρ y = .int .i64 b) (h:(a != b)=r) :
 (execOp ρ o).run Tryz.prog w = .ok (.value (.bool r)) w:=by
 simp only [execOp,ho,hx,hy]
 refine bK ?_
 rw [← h]
 exact bQ (by kernel_rfl) w
section
variable {s t a d:ByteArray} {c k n m g:Nat}
theorem check_empty (h0:decide ((0:Int)<(s.size:Nat))=false) (hsl:Fits Tryz.prog 105 [rS s] (rI (0:Int))) (ha:s.extract 0 0=a) (fa:Fits Tryz.prog 106 [rS a] (rl false)):Fits Tryz.prog 48 [rS s] (.fv (.sc (.lit (.int .i64 1)))):=by
 refine rgo Tryz.func48 (by kernel_rfl) fun w00=>?_
 refine eA 9 9 Tryz.underlying9 s ?_
 refine rgt 10 0 (s.size:Nat) false h0 ?_
 refine aM 105 [rS s] hsl (by kernel_rfl) Tryz.call105 ?_
 refine bF (.slice 9 (.tmp 21) none (some (.tmp 22)) none) (.tmp 21) (.tmp 22) (rS s) (rI (0:Int)) (rS a) (by kernel_rfl) (by simp [Op.operands]) (by simp [Op.operands]) (fun ρ o β w ho hx hy=>?_) ?_
 ·have:=slice_hi (k:=0) (w:=w) ho Tryz.underlying9 (bA hx) (bA hy) (Nat.zero_le _)
  rw [ha] at this
  exact ⟨_,this,cW⟩
 refine aM 106 [rS a] fa (by kernel_rfl) Tryz.call106 ?_
 exact dZ Tryz.func48 (by kernel_rfl)
end
end Go.Proofs.YtofcdondmgojiaaGreatDoor.Ab
namespace Go.Proofs.YtofcdondmgojiaaGreatDoor
open Go.RowKit Pl
set_option maxHeartbeats 1000000 in
theorem decForm_any (s:ByteArray) (w:World) (hs:s.size≤9223372036854775807):Calls Tryz.prog 106 #[.string s] w fun e w'=>e = .returned (.bool (Ab.decF s))∧w'=w:=by
 have cd:=Lib.hid (fun W=>digits_any s W hs)
 by_cases h0:s.size=0
 ·have hr:Ab.decF s=false:=by unfold Ab.decF;rw [if_pos h0]
  have k0:(s.size:Int)=0:=by omega
  rw [hr]
  clear hr h0 cd
  go_enter Tryz.func106,Tryz.ntmps106
  go_wp2
  go_ret
  exact ⟨rfl,rfl⟩
 ·have hp:0<s.size:=by omega
  obtain ⟨c,hc⟩:∃ c:Nat,(s[0]'hp).toNat=c:=⟨_,rfl⟩
  have hh:(aC s).head?=some 48↔c=48:=by
   have h1:=cU hp
   rw [List.head?_eq_getElem?,h1,← hc]
   constructor
   ·intro h;injection h with h;rw [h];rfl
   ·intro h;congr 1;exact UInt8.toNat_inj.1 h
  have k0:((s.size:Int)==0)=false:=by rw [beq_eq_false_iff_ne];omega
  have p0:(0:Int)<s.size:=by omega
  obtain ⟨r,hr⟩:∃ r,r=Ab.decF s:=⟨_,rfl⟩
  rw [← hr]
  unfold Ab.decF at hr
  rw [if_neg h0] at hr
  by_cases h1:1<s.size
  ·have k1:(1:Int)<s.size:=by omega
   by_cases h48:c=48
   ·rw [if_pos ⟨h1,hh.2 h48⟩] at hr
    subst h48
    have HR:=Lib.hid hr
    clear hr hh h1 h0 cd
    go_enter Tryz.func106,Tryz.ntmps106
    go_wp2
    go_ret
    exact ⟨by rw [HR.out];rfl,rfl⟩
   ·rw [if_neg (fun h=>h48 (hh.1 h.2))] at hr
    have k2:((c:Int)==48)=false:=by simp;omega
    have k3:¬ (c:Int)=48:=by omega
    have HR:=Lib.hid hr
    clear hr hh h1 h0 h48
    go_enter Tryz.func106,Tryz.ntmps106
    go_wp2_with fail
    refine (cd.out _).mono ?_
    rintro e w' ⟨rfl,rfl⟩
    go_wp2
    go_ret
    exact ⟨by rw [HR.out];rfl,rfl⟩
  ·rw [if_neg (fun h=>h1 h.1)] at hr
   have k1:¬ (1:Int)<s.size:=by omega
   have HR:=Lib.hid hr
   clear hr hh h1 h0
   go_enter Tryz.func106,Tryz.ntmps106
   go_wp2_with fail
   refine (cd.out _).mono ?_
   rintro e w' ⟨rfl,rfl⟩
   go_wp2
   go_ret
   exact ⟨by rw [HR.out];rfl,rfl⟩
end Go.Proofs.YtofcdondmgojiaaGreatDoor
namespace Go.Proofs.YtofcdondmgojiaaGreatDoor.Ab
open Go.RowKit Go.Proofs.YtofcdondmgojiaaGreatDoor Pl
theorem decFormF {s:ByteArray} (hs:s.size≤9223372036854775807):Fits Tryz.prog 106 [rS s] (rl (decF s)):=by
 intro β w vs hv
 obtain ⟨v,rfl,h1⟩:=dN hv
 rw [bA h1]
 exact (decForm_any s w hs).mono fun e w' ⟨e1,e2⟩=>⟨_,e1,by rw [e2];exact Below.refl _ _,fK rfl⟩
theorem lit_I {z:Int} (β:List Nat) (v:Value) (w:World) (h:(AV.fv (.sc (.lit (.int .i64 z))):AV Kr).holds β v w):(rI z).holds β v w:=h.1
theorem eF {a b:ByteArray} (h:a≠b):(a.toList==b.toList)=false:=by
 rw [beq_eq_false_iff_ne]
 intro e
 apply h
 rw [Go.ByteArray.toList_eq,Go.ByteArray.toList_eq] at e
 exact ba_ext e
theorem neg_head {s:ByteArray} (h:negB s=true):∃ h:0<s.size,(s[0]'h).toNat=45:=by
 have hh:(aC s).head?=some 45:=eq_of_beq h
 have hp:0<s.size:=by
  rcases Nat.eq_zero_or_pos s.size with e|e
  ·rw [← aE] at e
   rw [List.eq_nil_of_length_eq_zero e] at hh
   cases hh
  ·exact e
 refine ⟨hp,?_⟩
 rw [List.head?_eq_getElem?,cU hp] at hh
 injection hh with hh
 rw [hh];rfl
theorem pos_head {s:ByteArray} (hp:0<s.size) (h:negB s=false):∃ c:Nat,(∃ h:0<s.size,(s[0]'h).toNat=c)∧((c:Int)==45)=false:=by
 refine ⟨_,⟨hp,rfl⟩,?_⟩
 have hh:¬ (aC s).head?=some 45:=by unfold negB at h;rw [beq_eq_false_iff_ne] at h;exact h
 rw [beq_eq_false_iff_ne]
 intro e
 apply hh
 rw [List.head?_eq_getElem?,cU hp]
 congr 1
 apply UInt8.toNat_inj.1
 show (s[0]'hp).toNat=45
 omega
theorem partsT {t:ByteArray} {k n m:Nat} (hts:t.size≤1000000000) (hk:aI t=k) (hlt:k<t.size) (ha:t.extract 0 k=decB n) (hd:t.extract (k+1) t.size=decB m) (hn:(decB n).size≤100000) (hm:(decB m).size≤100000) :
 Fits Tryz.prog 107 [rS t] (.tup [.ag [.lit (.bool false),.sp (csDi n)],.ag [.lit (.bool false),.sp (csDi m)]]):=by
 have hsl:=fL (s:=t) (by omega)
 rw [hk] at hsl
 refine rgo Tryz.func107 (by kernel_rfl) fun w00=>?_
 refine aM 105 [rS t] hsl (by kernel_rfl) Tryz.call105 ?_
 refine bF (.call ⟨.builtin .len,#[.tmp 10],#[9]⟩) (.tmp 10) (.tmp 10) (rS t) (rS t) (rI t.size) (by kernel_rfl) (by simp [Op.operands,Call.operands]) (by simp [Op.operands,Call.operands]) (fun ρ o β w ho hx _=>⟨_,rlen_run ho Tryz.underlying9 (bA hx),cW⟩) ?_
 refine bF (.binOp .eql 3 (.tmp 9) (.tmp 11) 3) (.tmp 9) (.tmp 11) (rI (k:Int)) (rI t.size) (rl false) (by kernel_rfl) (by simp [Op.operands]) (by simp [Op.operands]) (fun ρ o β w ho hx hy=>⟨.bool false,ieq_run ho (bA hx) (bA hy) (by simp;omega),fK rfl⟩) ?_
 refine bF (.slice 9 (.tmp 16) none (some (.tmp 17)) none) (.tmp 16) (.tmp 17) (rS t) (rI (k:Int)) (rS (decB n)) (by kernel_rfl) (by simp [Op.operands]) (by simp [Op.operands]) (fun ρ o β w ho hx hy=>?_) ?_
 ·have:=slice_hi (w:=w) ho Tryz.underlying9 (bA hx) (bA hy) (by omega)
  rw [ha] at this
  exact ⟨_,this,cW⟩
 refine aM 160 [rS (decB n)] (parseDF hn) (by kernel_rfl) Tryz.call160 ?_
 refine bF (.binOp .add 3 (.tmp 21) (.const (.int .i64 1)) 3) (.tmp 21) (.const (.int .i64 1)) (rI (k:Int)) (.fv (.sc (.lit (.int .i64 1)))) (rI ((k+1:Nat):Int)) (by kernel_rfl) (by simp [Op.operands]) (by simp [Op.operands]) (fun ρ o β w ho hx hy=>⟨_,add1_run ho (bA hx) (cC hy) (by omega),cW⟩) ?_
 refine bF (.slice 9 (.tmp 20) (some (.tmp 22)) none none) (.tmp 20) (.tmp 22) (rS t) (rI ((k+1:Nat):Int)) (rS (decB m)) (by kernel_rfl) (by simp [Op.operands]) (by simp [Op.operands]) (fun ρ o β w ho hx hy=>?_) ?_
 ·have:=slice_lo (w:=w) ho Tryz.underlying9 (bA hx) (bA hy) (by omega)
  rw [hd] at this
  exact ⟨_,this,cW⟩
 refine aM 160 [rS (decB m)] (parseDF hm) (by kernel_rfl) Tryz.call160 ?_
 exact dZ Tryz.func107 (by kernel_rfl)
theorem fN {f:FuncId} {w00:World} {c:Cfg Kr} {fn:Func} {z:Int} (hfn:Tryz.prog.funcs[f]?=some fn) (hc:c.res Tryz.prog fn=some (.fv (.sc (.lit (.int .i64 z))))):Ok Tryz.prog f w00 (fun v w=>(rI z).holds [] v w) c :=
 ⟨good_ret hfn _ hc fun _ _ _ h=>h.1⟩
theorem check_neg {s:ByteArray} {z:Int} (hs:s.size≤9223372036854775807) (hne:0<s.size) (hn:negB s=true) (hz:bX s=z):Fits Tryz.prog 48 [rS s] (rI z):=by
 have hc:=neg_head hn
 have h1:1≤s.size:=hne
 have hsp:bG s=s.extract 1 s.size:=if_pos hn
 unfold bX at hz
 rw [hn] at hz
 obtain ⟨t,hext⟩:∃ t,s.extract 1 s.size=t:=⟨_,rfl⟩
 rw [hsp,hext] at hz
 have hts:t.size<9223372036854775807:=by rw [← hext,ByteArray.size_extract];omega
 have hsl:=fL (s:=t) (by omega)
 have hkl:=cK t
 have hks:aI t=aI t:=rfl
 generalize hk:aI t=k at hsl hkl hks hz
 obtain ⟨a,ha⟩:∃ a,t.extract 0 k=a:=⟨_,rfl⟩
 obtain ⟨d,hd⟩:∃ d,t.extract (k+1) t.size=d:=⟨_,rfl⟩
 have hasz:a.size=k:=by rw [← ha,ByteArray.size_extract];omega
 have hdsz:d.size=t.size-(k+1):=by rw [← hd,ByteArray.size_extract];omega
 rw [ha,hd] at hz
 have fa:=decFormF (s:=a) (by omega)
 have fd:=decFormF (s:=d) (by omega)
 refine rgo Tryz.func48 (by kernel_rfl) fun w00=>?_
 refine eA 9 9 Tryz.underlying9 s ?_
 refine rgt 10 0 (s.size:Nat) true (by rw [decide_eq_true_iff];omega) ?_
 refine ridn 13 s hc ?_
 refine rsl1 17 9 Tryz.underlying9 s t h1 hext ?_
 refine aM 105 [rS t] hsl (by kernel_rfl) Tryz.call105 ?_
 refine rshi 21 22 9 Tryz.underlying9 t k a hkl ha ?_
 by_cases c1:decF a=false
 ·rw [if_pos (.inl c1)] at hz
  subst hz
  rw [c1] at fa
  refine aM 106 [rS a] fa (by kernel_rfl) Tryz.call106 ?_
  exact fN Tryz.func48 (by kernel_rfl)
 rw [Bool.not_eq_false] at c1
 rw [c1] at fa
 refine aM 106 [rS a] fa (by kernel_rfl) Tryz.call106 ?_
 refine ridnR 27 s hc ?_
 refine rshi 31 32 9 Tryz.underlying9 t k a hkl ha ?_
 by_cases cz:a=zeroT
 ·rw [if_pos (.inr ⟨rfl,cz⟩)] at hz
  subst hz
  refine rseq 33 9 a ⟨#[48]⟩ true (by rw [cz];exact beq_self_eq_true zeroT.toList) ?_
  exact fN Tryz.func48 (by kernel_rfl)
 refine rseq 33 9 a ⟨#[48]⟩ false (eF cz) ?_
 rw [if_neg (by rintro (h|h);exact absurd (h.symm.trans c1) (by decide);exact cz h.2)] at hz
 refine eA 38 9 Tryz.underlying9 t ?_
 by_cases hlt:k<t.size
 ·have fl:decide ((k:Int)<(t.size:Nat))=true:=by rw [decide_eq_true_iff];omega
  refine rlss 37 39 (k:Int) (t.size:Nat) true fl ?_
  refine radd 43 k (by omega) ?_
  refine rslo 42 44 9 Tryz.underlying9 t (k+1) d (by omega) hd ?_
  by_cases d1:decF d=false
  ·rw [if_pos ⟨hlt,.inl d1⟩] at hz
   subst hz
   rw [d1] at fd
   refine aM 106 [rS d] fd (by kernel_rfl) Tryz.call106 ?_
   exact fN Tryz.func48 (by kernel_rfl)
  rw [Bool.not_eq_false] at d1
  rw [d1] at fd
  refine aM 106 [rS d] fd (by kernel_rfl) Tryz.call106 ?_
  refine radd 50 k (by omega) ?_
  refine rslo 49 51 9 Tryz.underlying9 t (k+1) d (by omega) hd ?_
  by_cases d0:d=zeroT
  ·rw [if_pos ⟨hlt,.inr (.inl d0)⟩] at hz
   subst hz
   refine rseq 52 9 d ⟨#[48]⟩ true (by rw [d0];exact beq_self_eq_true zeroT.toList) ?_
   exact fN Tryz.func48 (by kernel_rfl)
  refine rseq 52 9 d ⟨#[48]⟩ false (eF d0) ?_
  refine radd 57 k (by omega) ?_
  refine rslo 56 58 9 Tryz.underlying9 t (k+1) d (by omega) hd ?_
  by_cases d2:d=oneT
  ·rw [if_pos ⟨hlt,.inr (.inr d2)⟩] at hz
   subst hz
   refine rseq 59 9 d ⟨#[49]⟩ true (by rw [d2];exact beq_self_eq_true oneT.toList) ?_
   exact fN Tryz.func48 (by kernel_rfl)
  refine rseq 59 9 d ⟨#[49]⟩ false (eF d2) ?_
  rw [if_neg (by rintro ⟨_,h|h|h⟩;exact absurd (h.symm.trans d1) (by decide);exact d0 h;exact d2 h)] at hz
  by_cases l1:600<k
  ·rw [if_pos (.inl l1)] at hz
   subst hz
   refine rgt 63 600 (k:Int) true (by rw [decide_eq_true_iff];omega) ?_
   exact fN Tryz.func48 (by kernel_rfl)
  refine rgt 63 600 (k:Int) false (by rw [decide_eq_false_iff_not];omega) ?_
  refine eA 66 9 Tryz.underlying9 t ?_
  refine rsub 67 68 t.size k hkl (by omega) ?_
  refine bF (.binOp .sub 3 (.tmp 69) (.const (.int .i64 1)) 3) (.tmp 69) (.const (.int .i64 1)) (rI ((t.size-k:Nat):Int)) (.fv (.sc (.lit (.int .i64 1)))) (rI (((t.size-k:Nat):Int)-1)) (by kernel_rfl) (by simp [Op.operands]) (by simp [Op.operands]) (fun ρ o β w ho hx hy=>⟨_,sub1_run ho (bA hx) (cC hy) (by omega),cW⟩) ?_
  by_cases l2:600<t.size-k-1
  ·rw [if_pos (.inr l2)] at hz
   subst hz
   refine rgt 70 600 (((t.size-k:Nat):Int)-1) true (by rw [decide_eq_true_iff];omega) ?_
   exact fN Tryz.func48 (by kernel_rfl)
  refine rgt 70 600 (((t.size-k:Nat):Int)-1) false (by rw [decide_eq_false_iff_not];omega) ?_
  rw [if_neg (by rintro (h|h) <;> omega)] at hz
  refine eA 74 9 Tryz.underlying9 t ?_
  refine rlss 73 75 (k:Int) (t.size:Nat) true fl ?_
  have hae:=decF_of c1
  have hde:=decF_of d1
  generalize aT (aC a)=n at hae hz
  generalize aT (aC d)=m at hde hz
  have hp:=partsT (t:=t) (by omega) hk hlt (ha.trans hae) (hd.trans hde) (by rw [← hae];omega) (by rw [← hde];omega)
  have hm0:0<m:=Nat.pos_of_ne_zero fun e=>d0 (by rw [hde,e,dec0];rfl)
  have hg0:0<Nat.gcd n m:=Nat.gcd_pos_of_pos_right _ hm0
  have hg:=commonF (a:=n) (b:=m) (bd_of (dec_lt (n:=n) (k:=600) (by rw [← hae];omega)) (by omega)) (bd_of (dec_lt (n:=m) (k:=600) (by rw [← hde];omega)) (by omega))
  obtain ⟨g,hgg⟩:∃ g,Nat.gcd n m=g:=⟨_,rfl⟩
  rw [hgg] at hg hg0
  simp only [hgg] at hz
  refine aM 107 [rS t] hp (by kernel_rfl) Tryz.call107 ?_
  refine aM 108 [di n,di m] hg (by kernel_rfl) Tryz.call108 ?_
  rcases Nat.lt_or_ge g B9 with gb|gb
  ·refine bF (.call ⟨.builtin .len,#[.tmp 87],#[86]⟩) (.tmp 87) (.tmp 87) (di g) (di g) (.fv (.sc (.lit (.int .i64 1)))) (by kernel_rfl) (by simp [Op.operands,Call.operands]) (by simp [Op.operands,Call.operands]) (fun ρ o β w ho hx _=>?_) ?_
   ·obtain ⟨ad,c,e,_⟩:=di_one (bB.1 hx) hg0 gb
    exact ⟨_,len_di ho e,fK rfl⟩
   refine bF (.indexAddr 86 (.tmp 91) (.const (.int .i64 0))) (.tmp 91) (.const (.int .i64 0)) (di g) (.fv (.sc (.lit (.int .i64 0)))) (rP g) (by kernel_rfl) (by simp [Op.operands]) (by simp [Op.operands]) (fun ρ o β w ho hx hy=>?_) ?_
   ·obtain ⟨ad,c,e,hc⟩:=di_one (bB.1 hx) hg0 gb
    exact ⟨_,index_di ho e (cC hy) (by omega),⟨ad,rfl,hc⟩⟩
   refine bF (.load 3 (.tmp 92)) (.tmp 92) (.tmp 92) (rP g) (rP g) (rI (g:Int)) (by kernel_rfl) (by simp [Op.operands]) (by simp [Op.operands]) (fun ρ o β w ho hx _=>?_) ?_
   ·obtain ⟨ad,e,hc⟩:=hx
    injection e with e
    exact ⟨_,load_i ho e hc,cW⟩
   have hne:(((g:Int) != 1) = !decide (g=1)):=by rw [Bool.eq_iff_iff];simp;omega
   by_cases g1:g=1
   ·rw [if_neg (by rintro ⟨_,h⟩;exact h g1)] at hz
    subst hz
    refine bF (.binOp .neq 3 (.tmp 93) (.const (.int .i64 1)) 3) (.tmp 93) (.const (.int .i64 1)) (rI (g:Int)) (.fv (.sc (.lit (.int .i64 1)))) (rl false) (by kernel_rfl) (by simp [Op.operands]) (by simp [Op.operands]) (fun ρ o β w ho hx hy=>⟨.bool false,ine_run ho (bA hx) (cC hy) (by rw [hne];simp [g1]),fK rfl⟩) ?_
    exact fN Tryz.func48 (by kernel_rfl)
   ·rw [if_pos ⟨hlt,g1⟩] at hz
    subst hz
    refine bF (.binOp .neq 3 (.tmp 93) (.const (.int .i64 1)) 3) (.tmp 93) (.const (.int .i64 1)) (rI (g:Int)) (.fv (.sc (.lit (.int .i64 1)))) (rl true) (by kernel_rfl) (by simp [Op.operands]) (by simp [Op.operands]) (fun ρ o β w ho hx hy=>⟨.bool true,ine_run ho (bA hx) (cC hy) (by rw [hne];simp [g1]),fK rfl⟩) ?_
    exact fN Tryz.func48 (by kernel_rfl)
  ·rw [if_pos ⟨hlt,by have:=eB;omega⟩] at hz
   subst hz
   refine bF (.call ⟨.builtin .len,#[.tmp 87],#[86]⟩) (.tmp 87) (.tmp 87) (di g) (di g) rNe (by kernel_rfl) (by simp [Op.operands,Call.operands]) (by simp [Op.operands,Call.operands]) (fun ρ o β w ho hx _=>?_) ?_
   ·obtain ⟨A,m,c,e,hm⟩:=di_more (bB.1 hx) gb
    exact ⟨_,len_di ho e,⟨(m:Int),rfl,by omega⟩⟩
   refine bF (.binOp .neq 3 (.tmp 88) (.const (.int .i64 1)) 3) (.tmp 88) (.const (.int .i64 1)) rNe (.fv (.sc (.lit (.int .i64 1)))) (rl true) (by kernel_rfl) (by simp [Op.operands]) (by simp [Op.operands]) (fun ρ o β w ho hx hy=>?_) ?_
   ·obtain ⟨x,e,hm⟩:=hx
    injection e with e
    exact ⟨.bool true,ine_run ho e (cC hy) (by simpa using hm),fK rfl⟩
   exact fN Tryz.func48 (by kernel_rfl)
 ·have fl:decide ((k:Int)<(t.size:Nat))=false:=by rw [decide_eq_false_iff_not];omega
  refine rlss 37 39 (k:Int) (t.size:Nat) false fl ?_
  rw [if_neg (fun h=>hlt h.1)] at hz
  by_cases l1:600<k
  ·rw [if_pos (.inl l1)] at hz
   subst hz
   refine rgt 63 600 (k:Int) true (by rw [decide_eq_true_iff];omega) ?_
   exact fN Tryz.func48 (by kernel_rfl)
  rw [if_neg (by rintro (h|h) <;> omega),if_neg (fun h=>hlt h.1)] at hz
  subst hz
  refine rgt 63 600 (k:Int) false (by rw [decide_eq_false_iff_not];omega) ?_
  refine eA 66 9 Tryz.underlying9 t ?_
  refine rsub 67 68 t.size k hkl (by omega) ?_
  refine bF (.binOp .sub 3 (.tmp 69) (.const (.int .i64 1)) 3) (.tmp 69) (.const (.int .i64 1)) (rI ((t.size-k:Nat):Int)) (.fv (.sc (.lit (.int .i64 1)))) (rI (((t.size-k:Nat):Int)-1)) (by kernel_rfl) (by simp [Op.operands]) (by simp [Op.operands]) (fun ρ o β w ho hx hy=>⟨_,sub1_run ho (bA hx) (cC hy) (by omega),cW⟩) ?_
  refine rgt 70 600 (((t.size-k:Nat):Int)-1) false (by rw [decide_eq_false_iff_not];omega) ?_
  refine eA 74 9 Tryz.underlying9 t ?_
  refine rlss 73 75 (k:Int) (t.size:Nat) false fl ?_
  exact fN Tryz.func48 (by kernel_rfl)
theorem check_pos {s:ByteArray} {z:Int} (hs:s.size≤9223372036854775807) (hne:0<s.size) (hn:negB s=false) (hz:bX s=z):Fits Tryz.prog 48 [rS s] (rI z):=by
 obtain ⟨c,hc,hc45⟩:=pos_head hne hn
 have hsp:bG s=s:=if_neg (by rw [hn];exact Bool.false_ne_true)
 unfold bX at hz
 rw [hn,hsp] at hz
 have hts:=hs
 have hsl:=fL (s:=s) (by omega)
 have hkl:=cK s
 have hks:aI s=aI s:=rfl
 generalize hk:aI s=k at hsl hkl hks hz
 obtain ⟨a,ha⟩:∃ a,s.extract 0 k=a:=⟨_,rfl⟩
 obtain ⟨d,hd⟩:∃ d,s.extract (k+1) s.size=d:=⟨_,rfl⟩
 have hasz:a.size=k:=by rw [← ha,ByteArray.size_extract];omega
 have hdsz:d.size=s.size-(k+1):=by rw [← hd,ByteArray.size_extract];omega
 rw [ha,hd] at hz
 have fa:=decFormF (s:=a) (by omega)
 have fd:=decFormF (s:=d) (by omega)
 refine rgo Tryz.func48 (by kernel_rfl) fun w00=>?_
 refine eA 9 9 Tryz.underlying9 s ?_
 refine rgt 10 0 (s.size:Nat) true (by rw [decide_eq_true_iff];omega) ?_
 refine ridp 13 s c hc ?_
 refine rueq 14 c hc45 ?_
 refine aM 105 [rS s] hsl (by kernel_rfl) Tryz.call105 ?_
 refine rshi 21 22 9 Tryz.underlying9 s k a hkl ha ?_
 by_cases c1:decF a=false
 ·rw [if_pos (.inl c1)] at hz
  subst hz
  rw [c1] at fa
  refine aM 106 [rS a] fa (by kernel_rfl) Tryz.call106 ?_
  exact fN Tryz.func48 (by kernel_rfl)
 rw [Bool.not_eq_false] at c1
 rw [c1] at fa
 refine aM 106 [rS a] fa (by kernel_rfl) Tryz.call106 ?_
 refine ridpR 27 s c hc ?_
 refine rueq 28 c hc45 ?_
 rw [if_neg (by rintro (h|h);exact absurd (h.symm.trans c1) (by decide);exact absurd h.1 (by decide))] at hz
 refine eA 38 9 Tryz.underlying9 s ?_
 by_cases hlt:k<s.size
 ·have fl:decide ((k:Int)<(s.size:Nat))=true:=by rw [decide_eq_true_iff];omega
  refine rlss 37 39 (k:Int) (s.size:Nat) true fl ?_
  refine radd 43 k (by omega) ?_
  refine rslo 42 44 9 Tryz.underlying9 s (k+1) d (by omega) hd ?_
  by_cases d1:decF d=false
  ·rw [if_pos ⟨hlt,.inl d1⟩] at hz
   subst hz
   rw [d1] at fd
   refine aM 106 [rS d] fd (by kernel_rfl) Tryz.call106 ?_
   exact fN Tryz.func48 (by kernel_rfl)
  rw [Bool.not_eq_false] at d1
  rw [d1] at fd
  refine aM 106 [rS d] fd (by kernel_rfl) Tryz.call106 ?_
  refine radd 50 k (by omega) ?_
  refine rslo 49 51 9 Tryz.underlying9 s (k+1) d (by omega) hd ?_
  by_cases d0:d=zeroT
  ·rw [if_pos ⟨hlt,.inr (.inl d0)⟩] at hz
   subst hz
   refine rseq 52 9 d ⟨#[48]⟩ true (by rw [d0];exact beq_self_eq_true zeroT.toList) ?_
   exact fN Tryz.func48 (by kernel_rfl)
  refine rseq 52 9 d ⟨#[48]⟩ false (eF d0) ?_
  refine radd 57 k (by omega) ?_
  refine rslo 56 58 9 Tryz.underlying9 s (k+1) d (by omega) hd ?_
  by_cases d2:d=oneT
  ·rw [if_pos ⟨hlt,.inr (.inr d2)⟩] at hz
   subst hz
   refine rseq 59 9 d ⟨#[49]⟩ true (by rw [d2];exact beq_self_eq_true oneT.toList) ?_
   exact fN Tryz.func48 (by kernel_rfl)
  refine rseq 59 9 d ⟨#[49]⟩ false (eF d2) ?_
  rw [if_neg (by rintro ⟨_,h|h|h⟩;exact absurd (h.symm.trans d1) (by decide);exact d0 h;exact d2 h)] at hz
  by_cases l1:600<k
  ·rw [if_pos (.inl l1)] at hz
   subst hz
   refine rgt 63 600 (k:Int) true (by rw [decide_eq_true_iff];omega) ?_
   exact fN Tryz.func48 (by kernel_rfl)
  refine rgt 63 600 (k:Int) false (by rw [decide_eq_false_iff_not];omega) ?_
  refine eA 66 9 Tryz.underlying9 s ?_
  refine rsub 67 68 s.size k hkl (by omega) ?_
  refine bF (.binOp .sub 3 (.tmp 69) (.const (.int .i64 1)) 3) (.tmp 69) (.const (.int .i64 1)) (rI ((s.size-k:Nat):Int)) (.fv (.sc (.lit (.int .i64 1)))) (rI (((s.size-k:Nat):Int)-1)) (by kernel_rfl) (by simp [Op.operands]) (by simp [Op.operands]) (fun ρ o β w ho hx hy=>⟨_,sub1_run ho (bA hx) (cC hy) (by omega),cW⟩) ?_
  by_cases l2:600<s.size-k-1
  ·rw [if_pos (.inr l2)] at hz
   subst hz
   refine rgt 70 600 (((s.size-k:Nat):Int)-1) true (by rw [decide_eq_true_iff];omega) ?_
   exact fN Tryz.func48 (by kernel_rfl)
  refine rgt 70 600 (((s.size-k:Nat):Int)-1) false (by rw [decide_eq_false_iff_not];omega) ?_
  rw [if_neg (by rintro (h|h) <;> omega)] at hz
  refine eA 74 9 Tryz.underlying9 s ?_
  refine rlss 73 75 (k:Int) (s.size:Nat) true fl ?_
  have hae:=decF_of c1
  have hde:=decF_of d1
  generalize aT (aC a)=n at hae hz
  generalize aT (aC d)=m at hde hz
  have hp:=partsT (t:=s) (by omega) hk hlt (ha.trans hae) (hd.trans hde) (by rw [← hae];omega) (by rw [← hde];omega)
  have hm0:0<m:=Nat.pos_of_ne_zero fun e=>d0 (by rw [hde,e,dec0];rfl)
  have hg0:0<Nat.gcd n m:=Nat.gcd_pos_of_pos_right _ hm0
  have hg:=commonF (a:=n) (b:=m) (bd_of (dec_lt (n:=n) (k:=600) (by rw [← hae];omega)) (by omega)) (bd_of (dec_lt (n:=m) (k:=600) (by rw [← hde];omega)) (by omega))
  obtain ⟨g,hgg⟩:∃ g,Nat.gcd n m=g:=⟨_,rfl⟩
  rw [hgg] at hg hg0
  simp only [hgg] at hz
  refine aM 107 [rS s] hp (by kernel_rfl) Tryz.call107 ?_
  refine aM 108 [di n,di m] hg (by kernel_rfl) Tryz.call108 ?_
  rcases Nat.lt_or_ge g B9 with gb|gb
  ·refine bF (.call ⟨.builtin .len,#[.tmp 87],#[86]⟩) (.tmp 87) (.tmp 87) (di g) (di g) (.fv (.sc (.lit (.int .i64 1)))) (by kernel_rfl) (by simp [Op.operands,Call.operands]) (by simp [Op.operands,Call.operands]) (fun ρ o β w ho hx _=>?_) ?_
   ·obtain ⟨ad,c,e,_⟩:=di_one (bB.1 hx) hg0 gb
    exact ⟨_,len_di ho e,fK rfl⟩
   refine bF (.indexAddr 86 (.tmp 91) (.const (.int .i64 0))) (.tmp 91) (.const (.int .i64 0)) (di g) (.fv (.sc (.lit (.int .i64 0)))) (rP g) (by kernel_rfl) (by simp [Op.operands]) (by simp [Op.operands]) (fun ρ o β w ho hx hy=>?_) ?_
   ·obtain ⟨ad,c,e,hc⟩:=di_one (bB.1 hx) hg0 gb
    exact ⟨_,index_di ho e (cC hy) (by omega),⟨ad,rfl,hc⟩⟩
   refine bF (.load 3 (.tmp 92)) (.tmp 92) (.tmp 92) (rP g) (rP g) (rI (g:Int)) (by kernel_rfl) (by simp [Op.operands]) (by simp [Op.operands]) (fun ρ o β w ho hx _=>?_) ?_
   ·obtain ⟨ad,e,hc⟩:=hx
    injection e with e
    exact ⟨_,load_i ho e hc,cW⟩
   have hne:(((g:Int) != 1) = !decide (g=1)):=by rw [Bool.eq_iff_iff];simp;omega
   by_cases g1:g=1
   ·rw [if_neg (by rintro ⟨_,h⟩;exact h g1)] at hz
    subst hz
    refine bF (.binOp .neq 3 (.tmp 93) (.const (.int .i64 1)) 3) (.tmp 93) (.const (.int .i64 1)) (rI (g:Int)) (.fv (.sc (.lit (.int .i64 1)))) (rl false) (by kernel_rfl) (by simp [Op.operands]) (by simp [Op.operands]) (fun ρ o β w ho hx hy=>⟨.bool false,ine_run ho (bA hx) (cC hy) (by rw [hne];simp [g1]),fK rfl⟩) ?_
    exact fN Tryz.func48 (by kernel_rfl)
   ·rw [if_pos ⟨hlt,g1⟩] at hz
    subst hz
    refine bF (.binOp .neq 3 (.tmp 93) (.const (.int .i64 1)) 3) (.tmp 93) (.const (.int .i64 1)) (rI (g:Int)) (.fv (.sc (.lit (.int .i64 1)))) (rl true) (by kernel_rfl) (by simp [Op.operands]) (by simp [Op.operands]) (fun ρ o β w ho hx hy=>⟨.bool true,ine_run ho (bA hx) (cC hy) (by rw [hne];simp [g1]),fK rfl⟩) ?_
    exact fN Tryz.func48 (by kernel_rfl)
  ·rw [if_pos ⟨hlt,by have:=eB;omega⟩] at hz
   subst hz
   refine bF (.call ⟨.builtin .len,#[.tmp 87],#[86]⟩) (.tmp 87) (.tmp 87) (di g) (di g) rNe (by kernel_rfl) (by simp [Op.operands,Call.operands]) (by simp [Op.operands,Call.operands]) (fun ρ o β w ho hx _=>?_) ?_
   ·obtain ⟨A,m,c,e,hm⟩:=di_more (bB.1 hx) gb
    exact ⟨_,len_di ho e,⟨(m:Int),rfl,by omega⟩⟩
   refine bF (.binOp .neq 3 (.tmp 88) (.const (.int .i64 1)) 3) (.tmp 88) (.const (.int .i64 1)) rNe (.fv (.sc (.lit (.int .i64 1)))) (rl true) (by kernel_rfl) (by simp [Op.operands]) (by simp [Op.operands]) (fun ρ o β w ho hx hy=>?_) ?_
   ·obtain ⟨x,e,hm⟩:=hx
    injection e with e
    exact ⟨.bool true,ine_run ho e (cC hy) (by simpa using hm),fK rfl⟩
   exact fN Tryz.func48 (by kernel_rfl)
 ·have fl:decide ((k:Int)<(s.size:Nat))=false:=by rw [decide_eq_false_iff_not];omega
  refine rlss 37 39 (k:Int) (s.size:Nat) false fl ?_
  rw [if_neg (fun h=>hlt h.1)] at hz
  by_cases l1:600<k
  ·rw [if_pos (.inl l1)] at hz
   subst hz
   refine rgt 63 600 (k:Int) true (by rw [decide_eq_true_iff];omega) ?_
   exact fN Tryz.func48 (by kernel_rfl)
  rw [if_neg (by rintro (h|h) <;> omega),if_neg (fun h=>hlt h.1)] at hz
  subst hz
  refine rgt 63 600 (k:Int) false (by rw [decide_eq_false_iff_not];omega) ?_
  refine eA 66 9 Tryz.underlying9 s ?_
  refine rsub 67 68 s.size k hkl (by omega) ?_
  refine bF (.binOp .sub 3 (.tmp 69) (.const (.int .i64 1)) 3) (.tmp 69) (.const (.int .i64 1)) (rI ((s.size-k:Nat):Int)) (.fv (.sc (.lit (.int .i64 1)))) (rI (((s.size-k:Nat):Int)-1)) (by kernel_rfl) (by simp [Op.operands]) (by simp [Op.operands]) (fun ρ o β w ho hx hy=>⟨_,sub1_run ho (bA hx) (cC hy) (by omega),cW⟩) ?_
  refine rgt 70 600 (((s.size-k:Nat):Int)-1) false (by rw [decide_eq_false_iff_not];omega) ?_
  refine eA 74 9 Tryz.underlying9 s ?_
  refine rlss 73 75 (k:Int) (s.size:Nat) false fl ?_
  exact fN Tryz.func48 (by kernel_rfl)
theorem checkAnyF {s:ByteArray} (hs:s.size≤9223372036854775807):Fits Tryz.prog 48 [rS s] (rI (bX s)):=by
 rcases Nat.eq_zero_or_pos s.size with h0|h0
 ·have hbs:aC s = []:=List.eq_nil_of_length_eq_zero (by rw [aE];exact h0)
  have hn:negB s=false:=by unfold negB;rw [hbs];rfl
  have hst:bG s=s:=if_neg (by rw [hn];exact Bool.false_ne_true)
  have hsl:aI s=0:=by unfold aI;rw [hbs];rfl
  have hd:decF (s.extract 0 0)=false:=by unfold decF;rw [if_pos (by rw [ByteArray.size_extract];omega)]
  have e:bX s=1:=by unfold bX;rw [hst,hsl,if_pos (.inl hd)]
  rw [e]
  have h1:=fL (s:=s) (by omega)
  rw [hsl] at h1
  have h2:=decFormF (s:=s.extract 0 0) (by rw [ByteArray.size_extract];omega)
  rw [hd] at h2
  exact rres (check_empty (by rw [decide_eq_false_iff_not];omega) h1 rfl h2) lit_I
 ·cases e:negB s with
  | true=>exact check_neg hs h0 e rfl
  | false=>exact check_pos hs h0 e rfl
end Go.Proofs.YtofcdondmgojiaaGreatDoor.Ab
