/- Parts of the proof, joined. -/
import Derived.Test.YtggkobpggnamoaaGreatDoorJ36
import Derived.Test.YtggkobpggnamoaaGreatDoorJ27
set_option linter.unusedSimpArgs false
set_option linter.unusedVariables false
namespace Go.Proofs.YtggkobpggnamoaaGreatDoor
open Go.RowKit Pl
set_option maxHeartbeats 1000000 in
theorem decForm_any (s:ByteArray) (w:World) (hs:s.size≤9223372036854775806):Calls Tryz.prog 43 #[.string s] w fun e w'=>e = .returned (.bool (Ab.decF s))∧w'=w:=by
 have cd:=Lib.hid (fun W=>digits_any s W hs)
 by_cases h0:s.size=0
 ·have hr:Ab.decF s=false:=by unfold Ab.decF;rw [if_pos h0]
  have k0:(s.size:Int)=0:=by omega
  rw [hr]
  clear hr h0 cd
  go_enter Tryz.func43,Tryz.ntmps43
  go_wp2
  go_ret
  exact ⟨rfl,rfl⟩
 ·have hp:0<s.size:=by omega
  obtain ⟨c,hc⟩:∃ c:Nat,(s[0]'hp).toNat=c:=⟨_,rfl⟩
  have hh:(bytesOf s).head?=some 48↔c=48:=by
   have h1:=bytes_get hp
   rw [List.head?_eq_getElem?,h1,← hc]
   constructor
   ·intro h;injection h with h;rw [h];rfl
   ·intro h;congr 1;exact UInt8.toNat_inj.1 h
  have k0:((s.size:Int)==0)=false:=by rw [beq_eq_false_iff_ne];omega
  have p0:(0:Int)<s.size:=by omega
  obtain ⟨r,hr⟩:∃ r,r=Ab.decF s:=⟨_,rfl⟩
  rw [← hr]
  unfold Ab.decF at hr
  rw [if_neg h0] at hr
  by_cases h1:1<s.size
  ·have k1:(1:Int)<s.size:=by omega
   by_cases h48:c=48
   ·rw [if_pos ⟨h1,hh.2 h48⟩] at hr
    subst h48
    have HR:=Lib.hid hr
    clear hr hh h1 h0 cd
    go_enter Tryz.func43,Tryz.ntmps43
    go_wp2
    go_ret
    exact ⟨by rw [HR.out];rfl,rfl⟩
   ·rw [if_neg (fun h=>h48 (hh.1 h.2))] at hr
    have k2:((c:Int)==48)=false:=by simp;omega
    have k3:¬ (c:Int)=48:=by omega
    have HR:=Lib.hid hr
    clear hr hh h1 h0 h48
    go_enter Tryz.func43,Tryz.ntmps43
    go_wp2_with fail
    refine (cd.out _).mono ?_
    rintro e w' ⟨rfl,rfl⟩
    go_wp2
    go_ret
    exact ⟨by rw [HR.out];rfl,rfl⟩
  ·rw [if_neg (fun h=>h1 h.1)] at hr
   have k1:¬ (1:Int)<s.size:=by omega
   have HR:=Lib.hid hr
   clear hr hh h1 h0
   go_enter Tryz.func43,Tryz.ntmps43
   go_wp2_with fail
   refine (cd.out _).mono ?_
   rintro e w' ⟨rfl,rfl⟩
   go_wp2
   go_ret
   exact ⟨by rw [HR.out];rfl,rfl⟩
end Go.Proofs.YtggkobpggnamoaaGreatDoor
namespace Go.Proofs.YtggkobpggnamoaaGreatDoor.Ab
open Go.RowKit Go.Proofs.YtggkobpggnamoaaGreatDoor Pl
theorem decFormF {s:ByteArray} (hs:s.size≤9223372036854775806):Fits Tryz.prog 43 [rS s] (rl (decF s)):=by
 intro β w vs hv
 obtain ⟨v,rfl,h1⟩:=args1 hv
 rw [r_is h1]
 exact (decForm_any s w hs).mono fun e w' ⟨e1,e2⟩=>⟨_,e1,by rw [e2];exact Below.refl _ _,rlit rfl⟩
theorem lit_I {z:Int} (β:List Nat) (v:Value) (w:World) (h:(AV.fv (.sc (.lit (.int .i64 z))):AV Kr).holds β v w):(rI z).holds β v w:=h.1
theorem ne_list {a b:ByteArray} (h:a≠b):(a.toList==b.toList)=false:=by
 rw [beq_eq_false_iff_ne]
 intro e
 apply h
 rw [Go.ByteArray.toList_eq,Go.ByteArray.toList_eq] at e
 exact ba_ext e
theorem neg_head {s:ByteArray} (h:negB s=true):∃ h:0<s.size,(s[0]'h).toNat=45:=by
 have hh:(bytesOf s).head?=some 45:=eq_of_beq h
 have hp:0<s.size:=by
  rcases Nat.eq_zero_or_pos s.size with e|e
  ·rw [← bytesOf_length] at e
   rw [List.eq_nil_of_length_eq_zero e] at hh
   cases hh
  ·exact e
 refine ⟨hp,?_⟩
 rw [List.head?_eq_getElem?,bytes_get hp] at hh
 injection hh with hh
 rw [hh];rfl
theorem pos_head {s:ByteArray} (hp:0<s.size) (h:negB s=false):∃ c:Nat,(∃ h:0<s.size,(s[0]'h).toNat=c)∧((c:Int)==45)=false:=by
 refine ⟨_,⟨hp,rfl⟩,?_⟩
 have hh:¬ (bytesOf s).head?=some 45:=by unfold negB at h;rw [beq_eq_false_iff_ne] at h;exact h
 rw [beq_eq_false_iff_ne]
 intro e
 apply hh
 rw [List.head?_eq_getElem?,bytes_get hp]
 congr 1
 apply UInt8.toNat_inj.1
 show (s[0]'hp).toNat=45
 omega
theorem partsT {t:ByteArray} {k n m:Nat} (hts:t.size≤1000000000) (hk:slashB t=k) (hlt:k<t.size) (ha:t.extract 0 k=decB n) (hd:t.extract (k+1) t.size=decB m) (hn:(decB n).size≤100000) (hm:(decB m).size≤100000) :
 Fits Tryz.prog 44 [rS t] (.tup [.ag [.lit (.bool false),.sp (csDi n)],.ag [.lit (.bool false),.sp (csDi m)]]):=by
 have hsl:=slashF (s:=t) (by omega)
 rw [hk] at hsl
 refine rgo Tryz.func44 (by kernel_rfl) fun w00=>?_
 refine rcall 42 [rS t] hsl (by kernel_rfl) Tryz.call42 ?_
 refine rop2 (.call ⟨.builtin .len,#[.tmp 10],#[9]⟩) (.tmp 10) (.tmp 10) (rS t) (rS t) (rI t.size) (by kernel_rfl) (by simp [Op.operands,Call.operands]) (by simp [Op.operands,Call.operands]) (fun ρ o β w ho hx _=>⟨_,rlen_run ho Tryz.underlying9 (r_is hx),is_r⟩) ?_
 refine rop2 (.binOp .eql 3 (.tmp 9) (.tmp 11) 3) (.tmp 9) (.tmp 11) (rI (k:Int)) (rI t.size) (rl false) (by kernel_rfl) (by simp [Op.operands]) (by simp [Op.operands]) (fun ρ o β w ho hx hy=>⟨.bool false,ieq_run ho (r_is hx) (r_is hy) (by simp;omega),rlit rfl⟩) ?_
 refine rop2 (.slice 9 (.tmp 16) none (some (.tmp 17)) none) (.tmp 16) (.tmp 17) (rS t) (rI (k:Int)) (rS (decB n)) (by kernel_rfl) (by simp [Op.operands]) (by simp [Op.operands]) (fun ρ o β w ho hx hy=>?_) ?_
 ·have:=slice_hi (w:=w) ho Tryz.underlying9 (r_is hx) (r_is hy) (by omega)
  rw [ha] at this
  exact ⟨_,this,is_r⟩
 refine rcall 100 [rS (decB n)] (parseDF hn) (by kernel_rfl) Tryz.call100 ?_
 refine rop2 (.binOp .add 3 (.tmp 21) (.const (.int .i64 1)) 3) (.tmp 21) (.const (.int .i64 1)) (rI (k:Int)) (.fv (.sc (.lit (.int .i64 1)))) (rI ((k+1:Nat):Int)) (by kernel_rfl) (by simp [Op.operands]) (by simp [Op.operands]) (fun ρ o β w ho hx hy=>⟨_,add1_run ho (r_is hx) (r_lit hy) (by omega),is_r⟩) ?_
 refine rop2 (.slice 9 (.tmp 20) (some (.tmp 22)) none none) (.tmp 20) (.tmp 22) (rS t) (rI ((k+1:Nat):Int)) (rS (decB m)) (by kernel_rfl) (by simp [Op.operands]) (by simp [Op.operands]) (fun ρ o β w ho hx hy=>?_) ?_
 ·have:=slice_lo (w:=w) ho Tryz.underlying9 (r_is hx) (r_is hy) (by omega)
  rw [hd] at this
  exact ⟨_,this,is_r⟩
 refine rcall 100 [rS (decB m)] (parseDF hm) (by kernel_rfl) Tryz.call100 ?_
 exact rret Tryz.func44 (by kernel_rfl)
theorem check_neg {s:ByteArray} (hs:s.size≤100000) (hne:0<s.size) (hn:negB s=true):Fits Tryz.prog 12 [rS s] (rI (checkB s)):=by
 have h0:decide ((0:Int)<(s.size:Nat))=true:=by rw [decide_eq_true_iff];omega
 have hc:=neg_head hn
 have h1:1≤s.size:=hne
 have hsp:stripB s=s.extract 1 s.size:=if_pos hn
 unfold checkB
 rw [hn]
 obtain ⟨t,hext⟩:∃ t,s.extract 1 s.size=t:=⟨_,rfl⟩
 rw [hsp,hext]
 have hts:t.size≤1000000000:=by rw [← hext,ByteArray.size_extract];omega
 have hsl:=slashF (s:=t) (by omega)
 have hkl:=slashB_le t
 have hks:slashB t=slashB t:=rfl
 generalize hk:slashB t=k at hsl hkl hks ⊢
 obtain ⟨a,ha⟩:∃ a,t.extract 0 k=a:=⟨_,rfl⟩
 obtain ⟨d,hd⟩:∃ d,t.extract (k+1) t.size=d:=⟨_,rfl⟩
 have hasz:a.size=k:=by rw [← ha,ByteArray.size_extract];omega
 have hdsz:d.size=t.size-(k+1):=by rw [← hd,ByteArray.size_extract];omega
 rw [ha,hd]
 have fa:=decFormF (s:=a) (by omega)
 have fd:=decFormF (s:=d) (by omega)
 by_cases c1:decF a=false
 ·rw [if_pos (.inl c1)]
  rw [c1] at fa
  exact rres (check_An h0 hc h1 hext hts hkl hsl ha fa) lit_I
 rw [Bool.not_eq_false] at c1
 rw [c1] at fa ⊢
 by_cases cz:a=zeroT
 ·rw [if_pos (.inr ⟨rfl,cz⟩)]
  exact rres (check_Zn h0 hc h1 hext hts hkl hsl ha fa (by rw [cz];exact beq_self_eq_true zeroT.toList)) lit_I
 have cz':=ne_list cz
 rw [if_neg (by rintro (h|h);exact absurd h (by decide);exact cz h.2)]
 by_cases hlt:k<t.size
 ·have fl:decide ((k:Int)<(t.size:Nat))=true:=by rw [decide_eq_true_iff];omega
  by_cases d1:decF d=false
  ·rw [if_pos ⟨hlt,.inl d1⟩]
   rw [d1] at fd
   exact rres (check_Dn h0 hc h1 hext hts hkl hsl ha fa cz' fl hlt hd fd) lit_I
  rw [Bool.not_eq_false] at d1
  rw [d1] at fd
  by_cases d0:d=zeroT
  ·rw [if_pos ⟨hlt,.inr (.inl d0)⟩]
   exact rres (check_D0n h0 hc h1 hext hts hkl hsl ha fa cz' fl hlt hd fd (by rw [d0];exact beq_self_eq_true zeroT.toList)) lit_I
  have d0':=ne_list d0
  by_cases d2:d=oneT
  ·rw [if_pos ⟨hlt,.inr (.inr d2)⟩]
   exact rres (check_D1n h0 hc h1 hext hts hkl hsl ha fa cz' fl hlt hd fd d0' (by rw [d2];exact beq_self_eq_true oneT.toList)) lit_I
  have d2':=ne_list d2
  rw [if_neg (by rintro ⟨_,h|h|h⟩;exact absurd (h.symm.trans d1) (by decide);exact d0 h;exact d2 h)]
  by_cases l1:600<k
  ·rw [if_pos (.inl l1)]
   exact rres (check_L1n h0 hc h1 hext hts hkl hsl ha fa cz' fl hlt hd fd d0' d2' (by rw [decide_eq_true_iff];omega)) lit_I
  have l1' : decide ((600:Int)<(k:Int))=false:=by rw [decide_eq_false_iff_not];omega
  by_cases l2:600<t.size-k-1
  ·rw [if_pos (.inr l2)]
   exact rres (check_L2n h0 hc h1 hext hts hkl hsl ha fa cz' fl hlt hd fd d0' d2' l1' (by rw [decide_eq_true_iff];omega)) lit_I
  have l2' : decide ((600:Int)<((t.size-k:Nat):Int)-1)=false:=by rw [decide_eq_false_iff_not];omega
  rw [if_neg (by rintro (h|h) <;> omega)]
  have hae:=decF_of c1
  have hde:=decF_of d1
  generalize natOf (bytesOf a)=n at hae ⊢
  generalize natOf (bytesOf d)=m at hde ⊢
  have hp:=partsT hts hk hlt (ha.trans hae) (hd.trans hde) (by rw [← hae];omega) (by rw [← hde];omega)
  have hm0:0<m:=by
   rcases Nat.eq_zero_or_pos m with e|e
   ·exact absurd (by rw [hde,e,dec0];rfl) d0
   ·exact e
  have hg0:0<Nat.gcd n m:=Nat.gcd_pos_of_pos_right _ hm0
  have hg:=commonF (a:=n) (b:=m) (bd_of (dec_lt (n:=n) (k:=600) (by rw [← hae];omega)) (by omega)) (bd_of (dec_lt (n:=m) (k:=600) (by rw [← hde];omega)) (by omega))
  by_cases g1:Nat.gcd n m=1
  ·rw [if_neg (by rintro ⟨_,h⟩;exact h g1)]
   exact rres (check_OKn h0 hc h1 hext hts hkl hsl ha fa cz' fl hlt hd fd d0' d2' l1' l2' hp hg hg0 (by rw [g1];exact B9_one) g1) lit_I
  ·rw [if_pos ⟨hlt,g1⟩]
   rcases Nat.lt_or_ge (Nat.gcd n m) B9 with gb|gb
   ·exact rres (check_Gn h0 hc h1 hext hts hkl hsl ha fa cz' fl hlt hd fd d0' d2' l1' l2' hp hg hg0 gb g1) lit_I
   ·exact rres (check_GBn h0 hc h1 hext hts hkl hsl ha fa cz' fl hlt hd fd d0' d2' l1' l2' hp hg hg0 gb) lit_I
 ·have fl:decide ((k:Int)<(t.size:Nat))=false:=by rw [decide_eq_false_iff_not];omega
  rw [if_neg (fun h=>hlt h.1)]
  by_cases l1:600<k
  ·rw [if_pos (.inl l1)]
   exact rres (check_K4n h0 hc h1 hext hts hkl hsl ha fa cz' fl (by rw [decide_eq_true_iff];omega)) lit_I
  rw [if_neg (by rintro (h|h) <;> omega),if_neg (fun h=>hlt h.1)]
  exact rres (check_K0n h0 hc h1 hext hts hkl hsl ha fa cz' fl (by rw [decide_eq_false_iff_not];omega) (by rw [decide_eq_false_iff_not];omega)) lit_I
theorem check_pos {s:ByteArray} (hs:s.size≤100000) (hne:0<s.size) (hn:negB s=false):Fits Tryz.prog 12 [rS s] (rI (checkB s)):=by
 have h0:decide ((0:Int)<(s.size:Nat))=true:=by rw [decide_eq_true_iff];omega
 obtain ⟨c,hc,hc45⟩:=pos_head hne hn
 have hsp:stripB s=s:=if_neg (by rw [hn];exact Bool.false_ne_true)
 unfold checkB
 rw [hn,hsp]
 have hts:s.size≤1000000000:=by omega
 have hsl:=slashF (s:=s) (by omega)
 have hkl:=slashB_le s
 have hks:slashB s=slashB s:=rfl
 generalize hk:slashB s=k at hsl hkl hks ⊢
 obtain ⟨a,ha⟩:∃ a,s.extract 0 k=a:=⟨_,rfl⟩
 obtain ⟨d,hd⟩:∃ d,s.extract (k+1) s.size=d:=⟨_,rfl⟩
 have hasz:a.size=k:=by rw [← ha,ByteArray.size_extract];omega
 have hdsz:d.size=s.size-(k+1):=by rw [← hd,ByteArray.size_extract];omega
 rw [ha,hd]
 have fa:=decFormF (s:=a) (by omega)
 have fd:=decFormF (s:=d) (by omega)
 by_cases c1:decF a=false
 ·rw [if_pos (.inl c1)]
  rw [c1] at fa
  exact rres (check_Ap h0 hc hc45 hts hkl hsl ha fa) lit_I
 rw [Bool.not_eq_false] at c1
 rw [c1] at fa ⊢
 rw [if_neg (by rintro (h|h);exact absurd h (by decide);exact absurd h.1 (by decide))]
 by_cases hlt:k<s.size
 ·have fl:decide ((k:Int)<(s.size:Nat))=true:=by rw [decide_eq_true_iff];omega
  by_cases d1:decF d=false
  ·rw [if_pos ⟨hlt,.inl d1⟩]
   rw [d1] at fd
   exact rres (check_Dp h0 hc hc45 hts hkl hsl ha fa fl hlt hd fd) lit_I
  rw [Bool.not_eq_false] at d1
  rw [d1] at fd
  by_cases d0:d=zeroT
  ·rw [if_pos ⟨hlt,.inr (.inl d0)⟩]
   exact rres (check_D0p h0 hc hc45 hts hkl hsl ha fa fl hlt hd fd (by rw [d0];exact beq_self_eq_true zeroT.toList)) lit_I
  have d0':=ne_list d0
  by_cases d2:d=oneT
  ·rw [if_pos ⟨hlt,.inr (.inr d2)⟩]
   exact rres (check_D1p h0 hc hc45 hts hkl hsl ha fa fl hlt hd fd d0' (by rw [d2];exact beq_self_eq_true oneT.toList)) lit_I
  have d2':=ne_list d2
  rw [if_neg (by rintro ⟨_,h|h|h⟩;exact absurd (h.symm.trans d1) (by decide);exact d0 h;exact d2 h)]
  by_cases l1:600<k
  ·rw [if_pos (.inl l1)]
   exact rres (check_L1p h0 hc hc45 hts hkl hsl ha fa fl hlt hd fd d0' d2' (by rw [decide_eq_true_iff];omega)) lit_I
  have l1' : decide ((600:Int)<(k:Int))=false:=by rw [decide_eq_false_iff_not];omega
  by_cases l2:600<s.size-k-1
  ·rw [if_pos (.inr l2)]
   exact rres (check_L2p h0 hc hc45 hts hkl hsl ha fa fl hlt hd fd d0' d2' l1' (by rw [decide_eq_true_iff];omega)) lit_I
  have l2' : decide ((600:Int)<((s.size-k:Nat):Int)-1)=false:=by rw [decide_eq_false_iff_not];omega
  rw [if_neg (by rintro (h|h) <;> omega)]
  have hae:=decF_of c1
  have hde:=decF_of d1
  generalize natOf (bytesOf a)=n at hae ⊢
  generalize natOf (bytesOf d)=m at hde ⊢
  have hp:=partsT hts hk hlt (ha.trans hae) (hd.trans hde) (by rw [← hae];omega) (by rw [← hde];omega)
  have hm0:0<m:=by
   rcases Nat.eq_zero_or_pos m with e|e
   ·exact absurd (by rw [hde,e,dec0];rfl) d0
   ·exact e
  have hg0:0<Nat.gcd n m:=Nat.gcd_pos_of_pos_right _ hm0
  have hg:=commonF (a:=n) (b:=m) (bd_of (dec_lt (n:=n) (k:=600) (by rw [← hae];omega)) (by omega)) (bd_of (dec_lt (n:=m) (k:=600) (by rw [← hde];omega)) (by omega))
  by_cases g1:Nat.gcd n m=1
  ·rw [if_neg (by rintro ⟨_,h⟩;exact h g1)]
   exact rres (check_OKp h0 hc hc45 hts hkl hsl ha fa fl hlt hd fd d0' d2' l1' l2' hp hg hg0 (by rw [g1];exact B9_one) g1) lit_I
  ·rw [if_pos ⟨hlt,g1⟩]
   rcases Nat.lt_or_ge (Nat.gcd n m) B9 with gb|gb
   ·exact rres (check_Gp h0 hc hc45 hts hkl hsl ha fa fl hlt hd fd d0' d2' l1' l2' hp hg hg0 gb g1) lit_I
   ·exact rres (check_GBp h0 hc hc45 hts hkl hsl ha fa fl hlt hd fd d0' d2' l1' l2' hp hg hg0 gb) lit_I
 ·have fl:decide ((k:Int)<(s.size:Nat))=false:=by rw [decide_eq_false_iff_not];omega
  rw [if_neg (fun h=>hlt h.1)]
  by_cases l1:600<k
  ·rw [if_pos (.inl l1)]
   exact rres (check_K4p h0 hc hc45 hts hkl hsl ha fa fl (by rw [decide_eq_true_iff];omega)) lit_I
  rw [if_neg (by rintro (h|h) <;> omega),if_neg (fun h=>hlt h.1)]
  exact rres (check_K0p h0 hc hc45 hts hkl hsl ha fa fl (by rw [decide_eq_false_iff_not];omega) (by rw [decide_eq_false_iff_not];omega)) lit_I
theorem checkAnyF {s:ByteArray} (hs:s.size≤100000):Fits Tryz.prog 12 [rS s] (rI (checkB s)):=by
 rcases Nat.eq_zero_or_pos s.size with h0|h0
 ·have hbs:bytesOf s = []:=List.eq_nil_of_length_eq_zero (by rw [bytesOf_length];exact h0)
  have hn:negB s=false:=by unfold negB;rw [hbs];rfl
  have hst:stripB s=s:=if_neg (by rw [hn];exact Bool.false_ne_true)
  have hsl:slashB s=0:=by unfold slashB;rw [hbs];rfl
  have hd:decF (s.extract 0 0)=false:=by unfold decF;rw [if_pos (by rw [ByteArray.size_extract];omega)]
  have e:checkB s=1:=by unfold checkB;rw [hst,hsl,if_pos (.inl hd)]
  rw [e]
  have h1:=slashF (s:=s) (by omega)
  rw [hsl] at h1
  have h2:=decFormF (s:=s.extract 0 0) (by rw [ByteArray.size_extract];omega)
  rw [hd] at h2
  exact rres (check_empty (by rw [decide_eq_false_iff_not];omega) h1 rfl h2) lit_I
 ·cases e:negB s with
  | true=>exact check_neg hs h0 e
  | false=>exact check_pos hs h0 e
end Go.Proofs.YtggkobpggnamoaaGreatDoor.Ab
namespace Go.Proofs.YtggkobpggnamoaaGreatDoor.Ab
open Go.RowKit Go.Proofs.YtggkobpggnamoaaGreatDoor Pl
theorem slash_write (q:Rat):slashB (writeB q)=(textB q.num).size:=by
 by_cases h:q.den=1
 ·rw [write_one h,slash_one]
 ·rw [write_parts h,slash_two]
theorem num_cut (q:Rat):(writeB q).extract 0 (slashB (writeB q))=textB q.num:=by
 rw [slash_write]
 by_cases h:q.den=1
 ·rw [write_one h,ext_all]
 ·rw [write_parts h,ext_lo]
theorem den_cut {q:Rat} (h:q.den≠1):(writeB q).extract (slashB (writeB q)+1) (writeB q).size=decB q.den:=by
 rw [slash_write,write_parts h]
 exact ext_hi _ _
theorem write_len (q:Rat):(writeB q).size=(textB q.num).size+if q.den=1 then 0 else 1+(decB q.den).size:=by
 by_cases h:q.den=1
 ·rw [write_one h,if_pos h];rfl
 ·rw [write_parts h,if_neg h,ByteArray.size_append,ByteArray.size_append,size47]
theorem numF {q:Rat} (hs:(writeB q).size≤1000000000):Fits Tryz.prog 33 [rS (writeB q)] (rS (textB q.num)):=by
 have hc:=num_cut q
 generalize writeB q=s at *
 refine rgo Tryz.func33 (by kernel_rfl) fun w00=>?_
 refine rcall 42 [rS s] (slashF (by omega)) (by kernel_rfl) Tryz.call42 ?_
 refine rshi 3 5 22 Tryz.underlying22 s (slashB s) (textB q.num) (slashB_le _) hc ?_
 exact rret Tryz.func33 (by kernel_rfl)
theorem denF1 {q:Rat} (hs:(writeB q).size≤1000000000) (h:q.den=1):Fits Tryz.prog 34 [rS (writeB q)] (rS (decB q.den)):=by
 have hl:=write_len q
 have hk:=slash_write q
 rw [if_pos h] at hl
 have e:decB q.den=⟨#[49]⟩:=by rw [h,dec1]
 rw [e]
 generalize writeB q=s at *
 have key:Fits Tryz.prog 34 [rS s] (.fv (.sc (.lit (.string ⟨#[49]⟩)))):=by
  refine rgo Tryz.func34 (by kernel_rfl) fun w00=>?_
  refine rcall 42 [rS s] (slashF (by omega)) (by kernel_rfl) Tryz.call42 ?_
  refine rlen 7 22 Tryz.underlying22 s ?_
  refine rop2 (.binOp .eql 3 (.tmp 6) (.tmp 8) 3) (.tmp 6) (.tmp 8) (rI (slashB s:Nat)) (rI (s.size:Nat)) (rl true) (by kernel_rfl) (by simp [Op.operands]) (by simp [Op.operands]) (fun ρ o β w ho hx hy=>⟨.bool true,ieq_run ho (r_is hx) (r_is hy) (by simp;omega),rlit rfl⟩) ?_
  exact rret Tryz.func34 (by kernel_rfl)
 exact rres key fun β v w h=>h.1
theorem denF2 {q:Rat} (hs:(writeB q).size≤1000000000) (h:q.den≠1):Fits Tryz.prog 34 [rS (writeB q)] (rS (decB q.den)):=by
 have hl:=write_len q
 have hk:=slash_write q
 rw [if_neg h] at hl
 have hc:=den_cut h
 generalize decB q.den=d at *
 generalize writeB q=s at *
 refine rgo Tryz.func34 (by kernel_rfl) fun w00=>?_
 refine rcall 42 [rS s] (slashF (by omega)) (by kernel_rfl) Tryz.call42 ?_
 refine rlen 7 22 Tryz.underlying22 s ?_
 refine rop2 (.binOp .eql 3 (.tmp 6) (.tmp 8) 3) (.tmp 6) (.tmp 8) (rI (slashB s:Nat)) (rI (s.size:Nat)) (rl false) (by kernel_rfl) (by simp [Op.operands]) (by simp [Op.operands]) (fun ρ o β w ho hx hy=>⟨.bool false,ieq_run ho (r_is hx) (r_is hy) (by simp;omega),rlit rfl⟩) ?_
 refine radd 11 (slashB s) (by omega) ?_
 refine rslo 10 12 22 Tryz.underlying22 s (slashB s+1) d (by omega) hc ?_
 exact rret Tryz.func34 (by kernel_rfl)
theorem denOfF {q:Rat} (hs:(writeB q).size≤1000000000):Fits Tryz.prog 34 [rS (writeB q)] (rS (decB q.den)):=by
 by_cases h:q.den=1
 ·exact denF1 hs h
 ·exact denF2 hs h
theorem dec0_ne {n:Nat} (h:n≠0):decB n≠zeroT:=fun e=>h (decB_inj (e.trans dec0.symm))
theorem body_ne_zero {q:Rat} (h:q.num≠0):bodyB q≠zeroT:=by
 by_cases hd:q.den=1
 ·rw [body_one hd,textB_nat]
  exact dec0_ne (by omega)
 ·intro e
  have hl:=body_len q
  rw [if_neg hd,e] at hl
  have:zeroT.size=1:=rfl
  have:=decB_pos q.num.natAbs
  omega
theorem write_ne_zero {q:Rat} (h:q.num≠0):writeB q≠zeroT:=by
 by_cases hn:q.num<0
 ·obtain ⟨f1,⟨h0,hc⟩,f3,f4,f5⟩:=neg_facts hn
  intro e
  have h1:=(strip_write q).1
  rw [e,decide_eq_true hn] at h1
  exact absurd h1 (by decide)
 ·rw [write_pos hn]
  exact body_ne_zero h
theorem signF0 {q:Rat} (h:q.num=0):Fits Tryz.prog 93 [rS (writeB q)] (.fv (.sc (.lit (.int .i64 0)))):=by
 have e:((writeB q).toList==(⟨#[48]⟩:ByteArray).toList)=true:=by
  have hd:q.den=1:=by have:=q.reduced;rw [h] at this;simpa using this
  rw [write_one hd,h]
  have:textB 0=zeroT:=by unfold textB;rw [if_neg (by omega)];exact dec0
  rw [this]
  exact beq_self_eq_true zeroT.toList
 generalize writeB q=s at *
 refine rgo Tryz.func93 (by kernel_rfl) fun w00=>?_
 refine rseq 3 22 s ⟨#[48]⟩ true e ?_
 exact rret Tryz.func93 (by kernel_rfl)
theorem signFn {q:Rat} (h:q.num<0):Fits Tryz.prog 93 [rS (writeB q)] (.fv (.sc (.lit (.int .i64 (-1))))):=by
 have e:=ne_list (write_ne_zero (q:=q) (by omega))
 obtain ⟨f1,hc,f3,f4,f5⟩:=neg_facts h
 have h0:decide ((0:Int)<((writeB q).size:Nat))=true:=by rw [decide_eq_true_iff];omega
 generalize writeB q=s at *
 refine rgo Tryz.func93 (by kernel_rfl) fun w00=>?_
 refine rseq 3 22 s ⟨#[48]⟩ false e ?_
 refine rlen 5 22 Tryz.underlying22 s ?_
 refine rgt 6 0 (s.size:Nat) true h0 ?_
 refine ridnR 9 s hc ?_
 exact rret Tryz.func93 (by kernel_rfl)
theorem signFp {q:Rat} (h:0<q.num):Fits Tryz.prog 93 [rS (writeB q)] (.fv (.sc (.lit (.int .i64 1)))):=by
 have e:=ne_list (write_ne_zero (q:=q) (by omega))
 obtain ⟨c,hc,hc45⟩:=body_head q
 rw [← write_pos (by omega)] at hc
 have h0:decide ((0:Int)<((writeB q).size:Nat))=true:=by rw [decide_eq_true_iff];have:=hc.1;omega
 generalize writeB q=s at *
 refine rgo Tryz.func93 (by kernel_rfl) fun w00=>?_
 refine rseq 3 22 s ⟨#[48]⟩ false e ?_
 refine rlen 5 22 Tryz.underlying22 s ?_
 refine rgt 6 0 (s.size:Nat) true h0 ?_
 refine ridpR 9 s c hc ?_
 refine rueq 10 c hc45 ?_
 exact rret Tryz.func93 (by kernel_rfl)
theorem absFn {q:Rat} (h:q.num<0) (hs:(writeB q).size≤1000000000):Fits Tryz.prog 32 [rS (writeB q)] (rS (bodyB q)):=by
 have hg:=signFn h
 obtain ⟨f1,hc,f3,f4,f5⟩:=neg_facts h
 generalize bodyB q=u at *
 generalize writeB q=s at *
 refine rgo Tryz.func32 (by kernel_rfl) fun w00=>?_
 refine rcall 93 [rS s] hg (by kernel_rfl) Tryz.call93 ?_
 refine rsl1 6 22 Tryz.underlying22 s u f1 f3 ?_
 exact rret Tryz.func32 (by kernel_rfl)
theorem absFp {q:Rat} (h:¬ q.num<0):Fits Tryz.prog 32 [rS (writeB q)] (rS (bodyB q)):=by
 rw [← write_pos h]
 by_cases h0:q.num=0
 ·have hg:=signF0 h0
  generalize writeB q=s at *
  refine rgo Tryz.func32 (by kernel_rfl) fun w00=>?_
  refine rcall 93 [rS s] hg (by kernel_rfl) Tryz.call93 ?_
  exact rret Tryz.func32 (by kernel_rfl)
 ·have hg:=signFp (q:=q) (by omega)
  generalize writeB q=s at *
  refine rgo Tryz.func32 (by kernel_rfl) fun w00=>?_
  refine rcall 93 [rS s] hg (by kernel_rfl) Tryz.call93 ?_
  exact rret Tryz.func32 (by kernel_rfl)
theorem absOfF {q:Rat} (hs:(writeB q).size≤1000000000):Fits Tryz.prog 32 [rS (writeB q)] (rS (bodyB q)):=by
 by_cases h:q.num<0
 ·exact absFn h hs
 ·exact absFp h
theorem absTF {z:Int} (hs:(textB z).size≤1000000000):Fits Tryz.prog 32 [rS (textB z)] (rS (decB z.natAbs)):=by
 have h:=absOfF (q:=(z:Rat)) (by rw [← textB_write];exact hs)
 have e:bodyB (z:Rat)=decB z.natAbs:=by rw [body_one rfl,textB_nat];rfl
 rw [← textB_write,e] at h
 exact h
def Fw (k:Nat) (q:Rat):Prop:=(decB q.num.natAbs).size≤k∧(decB q.den).size≤k
theorem text_len (z:Int):(textB z).size≤(decB z.natAbs).size+1:=by
 unfold textB
 split
 ·rw [ByteArray.size_append,size45];omega
 ·omega
theorem fw_len {k:Nat} {q:Rat} (h:Fw k q):(writeB q).size≤2*k+2:=by
 have h1:=write_len q
 have h2:=text_len q.num
 have h3:=h.1
 have h4:=h.2
 split at h1 <;> omega
theorem few8_long {s:ByteArray} (h:decide (((s.size:Nat):Int)≤18)=false):Fits Tryz.prog 6 [rS s,.fv (.sc (.lit (.int .i64 8)))] (rl false):=by
 refine rgo Tryz.func6 (by kernel_rfl) fun w00=>?_
 refine rlen 5 22 Tryz.underlying22 s ?_
 refine rleq 6 9 (s.size:Nat) 18 false h ?_
 exact rret Tryz.func6 (by kernel_rfl)
theorem few8_bad {s:ByteArray} {z:Int} (h:decide (((s.size:Nat):Int)≤18)=true) (hk:Fits Tryz.prog 12 [rS s] (rI z)) (hz:z≠0):Fits Tryz.prog 6 [rS s,.fv (.sc (.lit (.int .i64 8)))] (rl false):=by
 refine rgo Tryz.func6 (by kernel_rfl) fun w00=>?_
 refine rlen 5 22 Tryz.underlying22 s ?_
 refine rleq 6 9 (s.size:Nat) 18 true h ?_
 refine rcall 12 [rS s] hk (by kernel_rfl) Tryz.call12 ?_
 refine rop2 (.binOp .eql 3 (.tmp 13) (.const (.int .i64 0)) 3) (.tmp 13) (.const (.int .i64 0)) (rI z) (.fv (.sc (.lit (.int .i64 0)))) (rl false) (by kernel_rfl) (by simp [Op.operands]) (by simp [Op.operands]) (fun ρ o β w ho hx hy=>⟨.bool false,ieq_run ho (r_is hx) (r_lit hy) (by simpa using hz),rlit rfl⟩) ?_
 exact rret Tryz.func6 (by kernel_rfl)
theorem few8_num {s u a:ByteArray} {z:Int} (h:decide (((s.size:Nat):Int)≤18)=true) (hk:Fits Tryz.prog 12 [rS s] (rI z)) (hz:z=0) (h1:Fits Tryz.prog 33 [rS s] (rS u)) (h2:Fits Tryz.prog 32 [rS u] (rS a)) (h3:decide (((a.size:Nat):Int)≤8)=false):Fits Tryz.prog 6 [rS s,.fv (.sc (.lit (.int .i64 8)))] (rl false):=by
 refine rgo Tryz.func6 (by kernel_rfl) fun w00=>?_
 refine rlen 5 22 Tryz.underlying22 s ?_
 refine rleq 6 9 (s.size:Nat) 18 true h ?_
 refine rcall 12 [rS s] hk (by kernel_rfl) Tryz.call12 ?_
 refine rop2 (.binOp .eql 3 (.tmp 13) (.const (.int .i64 0)) 3) (.tmp 13) (.const (.int .i64 0)) (rI z) (.fv (.sc (.lit (.int .i64 0)))) (rl true) (by kernel_rfl) (by simp [Op.operands]) (by simp [Op.operands]) (fun ρ o β w ho hx hy=>⟨.bool true,ieq_run ho (r_is hx) (r_lit hy) (by rw [hz];rfl),rlit rfl⟩) ?_
 refine rcall 33 [rS s] h1 (by kernel_rfl) Tryz.call33 ?_
 refine rcall 32 [rS u] h2 (by kernel_rfl) Tryz.call32 ?_
 refine rlen 19 22 Tryz.underlying22 a ?_
 refine rleq 20 21 (a.size:Nat) 8 false h3 ?_
 exact rret Tryz.func6 (by kernel_rfl)
theorem few8_denf {s u a d:ByteArray} {z:Int} (h:decide (((s.size:Nat):Int)≤18)=true) (hk:Fits Tryz.prog 12 [rS s] (rI z)) (hz:z=0) (h1:Fits Tryz.prog 33 [rS s] (rS u)) (h2:Fits Tryz.prog 32 [rS u] (rS a)) (h3:decide (((a.size:Nat):Int)≤8)=true) (h4:Fits Tryz.prog 34 [rS s] (rS d)) (h5:decide (((d.size:Nat):Int)≤8)=false):Fits Tryz.prog 6 [rS s,.fv (.sc (.lit (.int .i64 8)))] (rl false):=by
 refine rgo Tryz.func6 (by kernel_rfl) fun w00=>?_
 refine rlen 5 22 Tryz.underlying22 s ?_
 refine rleq 6 9 (s.size:Nat) 18 true h ?_
 refine rcall 12 [rS s] hk (by kernel_rfl) Tryz.call12 ?_
 refine rop2 (.binOp .eql 3 (.tmp 13) (.const (.int .i64 0)) 3) (.tmp 13) (.const (.int .i64 0)) (rI z) (.fv (.sc (.lit (.int .i64 0)))) (rl true) (by kernel_rfl) (by simp [Op.operands]) (by simp [Op.operands]) (fun ρ o β w ho hx hy=>⟨.bool true,ieq_run ho (r_is hx) (r_lit hy) (by rw [hz];rfl),rlit rfl⟩) ?_
 refine rcall 33 [rS s] h1 (by kernel_rfl) Tryz.call33 ?_
 refine rcall 32 [rS u] h2 (by kernel_rfl) Tryz.call32 ?_
 refine rlen 19 22 Tryz.underlying22 a ?_
 refine rleq 20 21 (a.size:Nat) 8 true h3 ?_
 refine rcall 34 [rS s] h4 (by kernel_rfl) Tryz.call34 ?_
 refine rlen 26 22 Tryz.underlying22 d ?_
 refine rleq 27 28 (d.size:Nat) 8 false h5 ?_
 exact rret Tryz.func6 (by kernel_rfl)
theorem few8_dent {s u a d:ByteArray} {z:Int} (h:decide (((s.size:Nat):Int)≤18)=true) (hk:Fits Tryz.prog 12 [rS s] (rI z)) (hz:z=0) (h1:Fits Tryz.prog 33 [rS s] (rS u)) (h2:Fits Tryz.prog 32 [rS u] (rS a)) (h3:decide (((a.size:Nat):Int)≤8)=true) (h4:Fits Tryz.prog 34 [rS s] (rS d)) (h5:decide (((d.size:Nat):Int)≤8)=true):Fits Tryz.prog 6 [rS s,.fv (.sc (.lit (.int .i64 8)))] (rl true):=by
 refine rgo Tryz.func6 (by kernel_rfl) fun w00=>?_
 refine rlen 5 22 Tryz.underlying22 s ?_
 refine rleq 6 9 (s.size:Nat) 18 true h ?_
 refine rcall 12 [rS s] hk (by kernel_rfl) Tryz.call12 ?_
 refine rop2 (.binOp .eql 3 (.tmp 13) (.const (.int .i64 0)) 3) (.tmp 13) (.const (.int .i64 0)) (rI z) (.fv (.sc (.lit (.int .i64 0)))) (rl true) (by kernel_rfl) (by simp [Op.operands]) (by simp [Op.operands]) (fun ρ o β w ho hx hy=>⟨.bool true,ieq_run ho (r_is hx) (r_lit hy) (by rw [hz];rfl),rlit rfl⟩) ?_
 refine rcall 33 [rS s] h1 (by kernel_rfl) Tryz.call33 ?_
 refine rcall 32 [rS u] h2 (by kernel_rfl) Tryz.call32 ?_
 refine rlen 19 22 Tryz.underlying22 a ?_
 refine rleq 20 21 (a.size:Nat) 8 true h3 ?_
 refine rcall 34 [rS s] h4 (by kernel_rfl) Tryz.call34 ?_
 refine rlen 26 22 Tryz.underlying22 d ?_
 refine rleq 27 28 (d.size:Nat) 8 true h5 ?_
 exact rret Tryz.func6 (by kernel_rfl)
theorem few8Yes {q:Rat} (h:Fw 8 q):Fits Tryz.prog 6 [rS (writeB q),.fv (.sc (.lit (.int .i64 8)))] (rl true):=by
 have hl:=fw_len h
 have ht:=text_len q.num
 have h1:=h.1
 have h2:=h.2
 exact few8_dent (by rw [decide_eq_true_iff];omega) (checkAnyF (by omega)) (check_write (by omega) (by omega)) (numF (by omega)) (absTF (by omega)) (by rw [decide_eq_true_iff];omega) (denOfF (by omega)) (by rw [decide_eq_true_iff];omega)
theorem few8No {s:ByteArray} (h:¬ ∃ q,s=writeB q∧Fw 8 q):Fits Tryz.prog 6 [rS s,.fv (.sc (.lit (.int .i64 8)))] (rl false):=by
 by_cases hl:s.size≤18
 ·have hl' : decide (((s.size:Nat):Int)≤18)=true:=by rw [decide_eq_true_iff];omega
  have hk:=checkAnyF (s:=s) (by omega)
  by_cases hz:checkB s=0
  ·obtain ⟨q,rfl,_,_⟩:=check_zero hz
   have ht:=text_len q.num
   have hw:=write_len q
   by_cases h3:(decB q.num.natAbs).size≤8
   ·exact few8_denf hl' hk hz (numF (by omega)) (absTF (by split at hw <;> omega)) (by rw [decide_eq_true_iff];omega) (denOfF (by omega)) (by rw [decide_eq_false_iff_not];intro h4;exact h ⟨q,rfl,h3,by omega⟩)
   ·exact few8_num hl' hk hz (numF (by omega)) (absTF (by split at hw <;> omega)) (by rw [decide_eq_false_iff_not];omega)
  ·exact few8_bad hl' hk hz
 ·exact few8_long (by rw [decide_eq_false_iff_not];omega)
theorem kn_I {f:FuncId} {s:ByteArray} {z:Int} (h:Fits Tryz.prog f [rS s] (rI z)):Fits Tryz.prog f [tx s] (.fv (.sc (isI z))):=by
 intro β w vs hv
 obtain ⟨v,rfl,h1⟩:=args1 hv
 rw [hold_is h1]
 exact (h β w [.string s] ⟨_,_,rfl,is_r,rfl⟩).mono fun e w' ⟨v,e1,e2,e3⟩=>⟨v,e1,e2,by rw [r_is e3];exact is_hold⟩
theorem kn_S {f:FuncId} {s t u:ByteArray} (h:Fits Tryz.prog f [rS s,rS t] (rS u)):Fits Tryz.prog f [tx s,tx t] (tx u):=by
 intro β w vs hv
 obtain ⟨v,v2,rfl,h1,h2⟩:=args2 hv
 rw [hold_is h1,hold_is h2]
 exact (h β w [.string s,.string t] ⟨_,_,rfl,is_r,_,_,rfl,is_r,rfl⟩).mono fun e w' ⟨v,e1,e2,e3⟩=>⟨v,e1,e2,by rw [r_is e3];exact is_hold⟩
theorem kn_F {f:FuncId} {s:ByteArray} {n:Int} {b:Bool} (h:Fits Tryz.prog f [rS s,.fv (.sc (.lit (.int .i64 n)))] (rl b)):Fits Tryz.prog f [tx s,it n] (bl b):=by
 intro β w vs hv
 obtain ⟨v,v2,rfl,h1,h2⟩:=args2 hv
 have e2:[v2] = [.int .i64 n]:=h2.1
 injection e2 with e2
 rw [hold_is h1,e2]
 exact (h β w [.string s,.int .i64 n] ⟨_,_,rfl,is_r,_,_,rfl,rlit rfl,rfl⟩).mono fun e w' ⟨v,e1,e2,e3⟩=>⟨v,e1,e2,by rw [r_lit e3];exact lit_hold rfl⟩
abbrev t3 (a b c:ByteArray):AV Kn := .fv (.ag [isS a,isS b,isS c])
theorem chkF {q:Rat} (h1:(decB q.num.natAbs).size≤600) (h2:(decB q.den).size≤600):Fits Tryz.prog 12 [tx (writeB q)] (it 0):=by
 have hw:=write_len q
 have ht:=text_len q.num
 have h:=kn_I (checkAnyF (s:=writeB q) (by split at hw <;> omega))
 rw [check_write h1 h2] at h
 intro β w vs hv
 exact (h β w vs hv).mono fun e w' ⟨v,e1,e2,e3⟩=>⟨v,e1,e2,by rw [hold_is e3];exact lit_hold rfl⟩
section
variable {a b c:ByteArray} {n:Int}
theorem fewVecT (h1:Fits Tryz.prog 6 [tx a,it n] (bl true)) (h2:Fits Tryz.prog 6 [tx b,it n] (bl true)) (h3:Fits Tryz.prog 6 [tx c,it n] (bl true)):Fits Tryz.prog 5 [t3 a b c,it n] (bl true):=by
 refine kgo Tryz.func5 (by kernel_rfl) fun w00=>?_
 refine kcall 6 [tx a,it n] (h1) (by kernel_rfl) Tryz.call6 ?_
 refine kcall 6 [tx b,it n] (h2) (by kernel_rfl) Tryz.call6 ?_
 refine kcall 6 [tx c,it n] (h3) (by kernel_rfl) Tryz.call6 ?_
 exact kret Tryz.func5 (by kernel_rfl)
theorem fewVecF1 (h1:Fits Tryz.prog 6 [tx a,it n] (bl false)):Fits Tryz.prog 5 [t3 a b c,it n] (bl false):=by
 refine kgo Tryz.func5 (by kernel_rfl) fun w00=>?_
 refine kcall 6 [tx a,it n] (h1) (by kernel_rfl) Tryz.call6 ?_
 exact kret Tryz.func5 (by kernel_rfl)
theorem fewVecF2 (h1:Fits Tryz.prog 6 [tx a,it n] (bl true)) (h2:Fits Tryz.prog 6 [tx b,it n] (bl false)):Fits Tryz.prog 5 [t3 a b c,it n] (bl false):=by
 refine kgo Tryz.func5 (by kernel_rfl) fun w00=>?_
 refine kcall 6 [tx a,it n] (h1) (by kernel_rfl) Tryz.call6 ?_
 refine kcall 6 [tx b,it n] (h2) (by kernel_rfl) Tryz.call6 ?_
 exact kret Tryz.func5 (by kernel_rfl)
theorem fewVecF3 (h1:Fits Tryz.prog 6 [tx a,it n] (bl true)) (h2:Fits Tryz.prog 6 [tx b,it n] (bl true)) (h3:Fits Tryz.prog 6 [tx c,it n] (bl false)):Fits Tryz.prog 5 [t3 a b c,it n] (bl false):=by
 refine kgo Tryz.func5 (by kernel_rfl) fun w00=>?_
 refine kcall 6 [tx a,it n] (h1) (by kernel_rfl) Tryz.call6 ?_
 refine kcall 6 [tx b,it n] (h2) (by kernel_rfl) Tryz.call6 ?_
 refine kcall 6 [tx c,it n] (h3) (by kernel_rfl) Tryz.call6 ?_
 exact kret Tryz.func5 (by kernel_rfl)
theorem checkRow3 {T:TypeId} (h1:Fits Tryz.prog 12 [tx a] (it 0)) (h2:Fits Tryz.prog 12 [tx b] (it 0)) (h3:Fits Tryz.prog 12 [tx c] (it 0)):Fits Tryz.prog 11 [.fv (.nsl 3 T [isS a,isS b,isS c])] (it 0):=by
 refine kgoS Tryz.func11 (by kernel_rfl) fun w00=>?_
 refine kcall 12 [tx a] (h1) (by kernel_rfl) Tryz.call12 ?_
 refine kcall 12 [tx b] (h2) (by kernel_rfl) Tryz.call12 ?_
 refine kcall 12 [tx c] (h3) (by kernel_rfl) Tryz.call12 ?_
 exact kret Tryz.func11 (by kernel_rfl)
theorem checkVec3 (h1:Fits Tryz.prog 12 [tx a] (it 0)) (h2:Fits Tryz.prog 12 [tx b] (it 0)) (h3:Fits Tryz.prog 12 [tx c] (it 0)):Fits Tryz.prog 10 [t3 a b c] (it 0):=by
 refine kgo Tryz.func10 (by kernel_rfl) fun w00=>?_
 refine kcall 11 [.fv (.nsl 3 22 [isS a,isS b,isS c])] (checkRow3 h1 h2 h3) (by kernel_rfl) Tryz.call11 ?_
 exact kret Tryz.func10 (by kernel_rfl)
end
theorem originF:Fits Tryz.prog 14 ([]:List (AV Kn)) (.fv (.ag [.lit (.string ⟨#[48]⟩),.lit (.string ⟨#[48]⟩),.lit (.string ⟨#[48]⟩)])):=by
 refine kgo Tryz.func14 (by kernel_rfl) fun w00=>?_
 exact kret Tryz.func14 (by kernel_rfl)
section
variable {a b c d e f:ByteArray} {x y z:ByteArray}
theorem addVecR (h1:Fits Tryz.prog 15 [tx a,tx d] (tx x)) (h2:Fits Tryz.prog 15 [tx b,tx e] (tx y)) (h3:Fits Tryz.prog 15 [tx c,tx f] (tx z)):Fits Tryz.prog 13 [t3 a b c,t3 d e f] (t3 x y z):=by
 refine kgo Tryz.func13 (by kernel_rfl) fun w00=>?_
 refine kcall 15 [tx a,tx d] (h1) (by kernel_rfl) Tryz.call15 ?_
 refine kcall 15 [tx b,tx e] (h2) (by kernel_rfl) Tryz.call15 ?_
 refine kcall 15 [tx c,tx f] (h3) (by kernel_rfl) Tryz.call15 ?_
 exact kret Tryz.func13 (by kernel_rfl)
end
end Go.Proofs.YtggkobpggnamoaaGreatDoor.Ab
