/- Parts of the proof, joined. -/
import Derived.Test.YtbhcckhbbclemaaGreatDoorJ22
set_option linter.unusedSimpArgs false
set_option linter.unusedVariables false
namespace Go.Proofs.YtbhcckhbbclemaaGreatDoor.Ab
open Go.RowKit Go.Proofs.YtbhcckhbbclemaaGreatDoor Pl
theorem len_run {o:Oper} {ρ:Operand→Value} {w:World} {t:Tmp} {T:TypeId} {s:ByteArray} (ho:o.op = .call ⟨.builtin .len,#[.tmp t],#[T]⟩) (hT:Tryz.prog.underlying T=some .string) (hx:ρ (.tmp t) = .string s) :
 (execOp ρ o).run Tryz.prog w = .ok (.value (.int .i64 s.size)) w:=by
 have hm:(#[Operand.tmp t].map ρ) = #[.string s]:=by simp [hx]
 simp only [execOp,ho,resolve,Sem.run_bind,Sem.run_pure,Result.andThen,hm,invoke,builtin,Builtin.len_]
 simp [Sem.run_bind,run_underlying hT,Result.andThen,goInt]
section
variable {f:FuncId} {w00:World} {Out:Value→World→Prop}
theorem klen {c:Cfg Kn} (t:Tmp) (s:ByteArray) (hc:(c.op.map fun o=>o.op,c.okT (.fv (.sc (isI s.size))),c.ev (.tmp t))=(some (.call ⟨.builtin .len,#[.tmp t],#[9]⟩),true,tx s))
 (hg:Ok Tryz.prog f w00 Out (runA Tryz.prog 1000 (c.give (.fv (.sc (isI s.size)))))):Ok Tryz.prog f w00 Out c:=by
 simp only [Prod.mk.injEq] at hc
 obtain ⟨h1,h2,h3⟩:=hc
 exact kop2 _ (.tmp t) (.tmp t) (tx s) (tx s) (.fv (.sc (isI s.size))) (by rw [h1,h2,h3]) (by simp [Op.operands,Call.operands]) (by simp [Op.operands,Call.operands])
  (fun ρ o β w ho hx _=>⟨_,len_run ho Tryz.underlying9 (hold_is hx),is_hold⟩) hg
end
theorem gt_run {o:Oper} {ρ:Operand→Value} {w:World} {x y:Operand} {a b:Int} {r:Bool} (ho:o.op = .binOp .gtr 3 x y 3) (hx:ρ x = .int .i64 a) (hy:ρ y = .int .i64 b) (h:decide (b<a)=r) :
 (execOp ρ o).run Tryz.prog w = .ok (.value (.bool r)) w:=by
 simp only [execOp,ho,hx,hy]
 refine run_v ?_
 rw [← h]
 exact evalP_run (by kernel_rfl) w
theorem sne_run {o:Oper} {ρ:Operand→Value} {w:World} {x y:Operand} {a b:ByteArray} {r:Bool} {T T' : TypeId} (ho:o.op = .binOp .neq T x y T') (hx:ρ x = .string a) (hy:ρ y = .string b) (h:(!(a.toList==b.toList))=r) :
 (execOp ρ o).run Tryz.prog w = .ok (.value (.bool r)) w:=by
 simp only [execOp,ho,hx,hy]
 refine run_v ?_
 rw [← h]
 exact evalP_run (by kernel_rfl) w
def writeB (q:Rat):ByteArray:=if q.den=1 then overB q else overB q++(⟨#[47]⟩++decB q.den)
theorem decB_size_le {a k:Nat} (h:a<10^(k+1)):(decB a).size≤k+1:=decB_size h
theorem over_size {q:Rat}:(overB q).size≤(decB q.num.natAbs).size+1:=by
 unfold overB
 split
 ·simp
  have:(⟨#[45]⟩:ByteArray).size=1:=rfl
  omega
 ·omega
theorem dec_one_iff {n:Nat}:(!((decB n).toList==(⟨#[49]⟩:ByteArray).toList)) = !decide (n=1):=by
 congr 1
 rw [Bool.eq_iff_iff]
 simp only [beq_iff_eq,decide_eq_true_eq]
 rw [Go.ByteArray.toList_eq,Go.ByteArray.toList_eq]
 simp only [decB]
 constructor
 ·intro h
  have:=(natOf_dec n).1
  rw [h] at this
  rw [← this]
  rfl
 ·rintro rfl
  exact dec_small (by omega)
theorem writeF {q:Rat} (hq:Lf 20 q) (hn:(decB q.num.natAbs).size≤600) (hd:(decB q.den).size≤600):FitsW Tryz.prog Gl 66 [num q] (.tup [.sc (isS (writeB q)),.sc (.lit (.int .i64 0))]):=by
 have h1:decide ((600:Int)<((decB q.num.natAbs).size:Int))=false:=by simp;omega
 have h2:decide ((600:Int)<((decB q.den).size:Int))=false:=by simp;omega
 have hs:=over_size (q:=q)
 have hb1:(⟨#[47]⟩:ByteArray).size+(decB q.den).size≤9223372036854775807:=by
  have:(⟨#[47]⟩:ByteArray).size=1:=rfl
  omega
 have hb2:(overB q).size+(⟨#[47]⟩++decB q.den:ByteArray).size≤9223372036854775807:=by
  have:(⟨#[47]⟩:ByteArray).size=1:=rfl
  simp
  omega
 by_cases h:q.den=1
 ·have hw:writeB q=overB q:=by rw [writeB,if_pos h]
  have h3:(!((decB q.den).toList==(⟨#[49]⟩:ByteArray).toList))=false:=by rw [dec_one_iff,h];rfl
  rw [hw]
  refine kgoW Tryz.func66 (by kernel_rfl) fun w00 hG=>?_;have hI:=keepGl hG
  refine kcallW hI 138 [num q] (numTextF hq (by omega)) (by kernel_rfl) Tryz.call138 ?_
  refine kcall 139 [tx (overB q),lt ⟨#[45]⟩] (trimF trim_over) (by kernel_rfl) Tryz.call139 ?_
  refine klen 12 (decB q.num.natAbs) (by kernel_rfl) ?_
  refine kop2 (.binOp .gtr 3 (.tmp 13) (.const (.int .i64 600)) 3) (.tmp 13) (.const (.int .i64 600)) (.fv (.sc (isI (decB q.num.natAbs).size))) (it 600) (bl false) (by kernel_rfl) (by simp [Op.operands]) (by simp [Op.operands]) (fun ρ o β w ho hx hy=>⟨_,gt_run ho (hold_is hx) (hold_lit hy) h1,lit_hold rfl⟩) ?_
  refine klen 16 (decB q.den) (by kernel_rfl) ?_
  refine kop2 (.binOp .gtr 3 (.tmp 17) (.const (.int .i64 600)) 3) (.tmp 17) (.const (.int .i64 600)) (.fv (.sc (isI (decB q.den).size))) (it 600) (bl false) (by kernel_rfl) (by simp [Op.operands]) (by simp [Op.operands]) (fun ρ o β w ho hx hy=>⟨_,gt_run ho (hold_is hx) (hold_lit hy) h2,lit_hold rfl⟩) ?_
  refine kop2 (.binOp .neq 9 (.tmp 20) (.const (.string ⟨#[49]⟩)) 9) (.tmp 20) (.const (.string ⟨#[49]⟩)) (tx (decB q.den)) (lt ⟨#[49]⟩) (bl false) (by kernel_rfl) (by simp [Op.operands]) (by simp [Op.operands]) (fun ρ o β w ho hx hy=>⟨_,sne_run ho (hold_is hx) (hold_lit hy) h3,lit_hold rfl⟩) ?_
  exact kret Tryz.func66 (by kernel_rfl)
 ·have hw:writeB q=overB q++(⟨#[47]⟩++decB q.den):=by rw [writeB,if_neg h]
  have h3:(!((decB q.den).toList==(⟨#[49]⟩:ByteArray).toList))=true:=by rw [dec_one_iff];simpa using h
  rw [hw]
  refine kgoW Tryz.func66 (by kernel_rfl) fun w00 hG=>?_;have hI:=keepGl hG
  refine kcallW hI 138 [num q] (numTextF hq (by omega)) (by kernel_rfl) Tryz.call138 ?_
  refine kcall 139 [tx (overB q),lt ⟨#[45]⟩] (trimF trim_over) (by kernel_rfl) Tryz.call139 ?_
  refine klen 12 (decB q.num.natAbs) (by kernel_rfl) ?_
  refine kop2 (.binOp .gtr 3 (.tmp 13) (.const (.int .i64 600)) 3) (.tmp 13) (.const (.int .i64 600)) (.fv (.sc (isI (decB q.num.natAbs).size))) (it 600) (bl false) (by kernel_rfl) (by simp [Op.operands]) (by simp [Op.operands]) (fun ρ o β w ho hx hy=>⟨_,gt_run ho (hold_is hx) (hold_lit hy) h1,lit_hold rfl⟩) ?_
  refine klen 16 (decB q.den) (by kernel_rfl) ?_
  refine kop2 (.binOp .gtr 3 (.tmp 17) (.const (.int .i64 600)) 3) (.tmp 17) (.const (.int .i64 600)) (.fv (.sc (isI (decB q.den).size))) (it 600) (bl false) (by kernel_rfl) (by simp [Op.operands]) (by simp [Op.operands]) (fun ρ o β w ho hx hy=>⟨_,gt_run ho (hold_is hx) (hold_lit hy) h2,lit_hold rfl⟩) ?_
  refine kop2 (.binOp .neq 9 (.tmp 20) (.const (.string ⟨#[49]⟩)) 9) (.tmp 20) (.const (.string ⟨#[49]⟩)) (tx (decB q.den)) (lt ⟨#[49]⟩) (bl true) (by kernel_rfl) (by simp [Op.operands]) (by simp [Op.operands]) (fun ρ o β w ho hx hy=>⟨_,sne_run ho (hold_is hx) (hold_lit hy) h3,lit_hold rfl⟩) ?_
  refine kop2 (.binOp .add 9 (.const (.string ⟨#[47]⟩)) (.tmp 23) 9) (.const (.string ⟨#[47]⟩)) (.tmp 23) (lt ⟨#[47]⟩) (tx (decB q.den)) (tx (⟨#[47]⟩++decB q.den)) (by kernel_rfl) (by simp [Op.operands]) (by simp [Op.operands]) (fun ρ o β w ho hx hy=>⟨_,cat_run ho (hold_lit hx) (hold_is hy) hb1,is_hold⟩) ?_
  refine kop2 (.binOp .add 9 (.tmp 22) (.tmp 24) 9) (.tmp 22) (.tmp 24) (tx (overB q)) (tx (⟨#[47]⟩++decB q.den)) (tx (overB q++(⟨#[47]⟩++decB q.den))) (by kernel_rfl) (by simp [Op.operands]) (by simp [Op.operands]) (fun ρ o β w ho hx hy=>⟨_,cat_run ho (hold_is hx) (hold_is hy) hb2,is_hold⟩) ?_
  exact kret Tryz.func66 (by kernel_rfl)
end Go.Proofs.YtbhcckhbbclemaaGreatDoor.Ab
namespace Go.Proofs.YtbhcckhbbclemaaGreatDoor
open Go.RowKit Pl
theorem iter_below (w:World) (s:ByteArray) (pos:Nat):Below w.heap.size w (w.iter s pos):=(Below.refl _ _).alloc (Nat.le_refl _) _
set_option maxRecDepth 100000 in
theorem isDigits_any (s:ByteArray) (w:World) (hd:AllDig (bytesOf s)) (h0:0<s.size):Calls Tryz.prog 125 #[.string s] w fun e w'=>e = .returned (.bool true)∧Below w.heap.size w w':=by
 have hne:(!(s.toList==(⟨#[]⟩:ByteArray).toList))=true:=by
  rw [Go.ByteArray.toList_eq,Go.ByteArray.toList_eq]
  have:s.data.toList≠[]:=fun h=>by
   have h2:(bytesOf s).length=0:=by simp only [bytesOf];rw [h];rfl
   rw [bytesOf_length] at h2
   omega
  simpa using this
 have H:=Lib.hid (And.intro hd (And.intro h0 hne))
 clear hd h0 hne
 go_enter Tryz.func125,Tryz.ntmps125
 go_wp2
 go_loopw [4] (fun _ wr => ∃ pos:Nat,wr=w.iter s pos∧pos≤s.size) (fun _ wr=>s.size-wr.iterPos w.heap.size)
 case atStart=>exact ⟨0,rfl,Nat.zero_le _⟩
 case round =>
  obtain ⟨pos,rfl,hpos⟩:=hrel
  by_cases hp:pos<s.size
  ·have hc:48≤(s[pos]'hp).toNat∧(s[pos]'hp).toNat≤57:=by
    have:=H.out.1 (s[pos]'hp) (by
     unfold bytesOf
     rw [Array.mem_toList_iff]
     exact Array.getElem_mem _)
    exact this
   obtain ⟨c,hcc⟩:∃ c,c=(s[pos]'hp).toNat:=⟨_,rfl⟩
   have hnx:∀ ty,(Instr.next (.pointer (some ⟨w.heap.size,0,none⟩)) true ty).run Tryz.prog (w.iter s pos) = .ok (.tuple #[.bool true,.int .i64 pos,.int .i32 (c:Int)]) (w.iter s (pos+1)):=fun ty=>by
    rw [hcc]
    exact run_next_ascii w s pos ty hp (by omega)
   rw [← hcc] at hc
   have k1:(48:Int)≤c:=by omega
   have k2:(c:Int)≤57:=by omega
   have HH:=Lib.hid (And.intro hp hpos)
   clear hc hcc hp hpos
   go_wp2
   go_roundw
   case rel=>exact ⟨pos+1,rfl,HH.out.1⟩
   case measure =>
    have:=HH.out.1
    simp
    omega
  ·have hnx:∀ ty,(Instr.next (.pointer (some ⟨w.heap.size,0,none⟩)) true ty).run Tryz.prog (w.iter s pos)=_:=fun ty=>run_next_end w s pos ty hp
   have hne:=H.out.2.2
   go_wp2
   go_ret
   exact ⟨by simp at hne ⊢;exact hne,iter_below _ _ _⟩
end Go.Proofs.YtbhcckhbbclemaaGreatDoor
namespace Go.Proofs.YtbhcckhbbclemaaGreatDoor.Ab
open Go.RowKit Go.Proofs.YtbhcckhbbclemaaGreatDoor Pl
theorem isDigitsF {s:ByteArray} (hd:AllDig (bytesOf s)) (h0:0<s.size):Fits Tryz.prog 125 [tx s] (bl true):=by
 intro β w vs hv
 obtain ⟨v,rfl,h1⟩:=args1 hv
 rw [hold_is h1]
 exact (isDigits_any s w hd h0).mono fun e w' ⟨e1,e2⟩=>⟨_,e1,e2,lit_hold rfl⟩
theorem index_run {o:Oper} {ρ:Operand→Value} {w:World} {x y:Operand} {s:ByteArray} {i:Nat} {c:UInt8} {T:TypeId} (ho:o.op = .index T x y) (hT:Tryz.prog.underlying T=some .string) (hx:ρ x = .string s) (hy:ρ y = .int .i64 i) (hc:s[i]?=some c) :
 (execOp ρ o).run Tryz.prog w = .ok (.value (.int .u8 c.toNat)) w:=by
 simp only [execOp,ho,hx,hy]
 refine run_v ?_
 simp [Instr.index,asIntOf,Sem.run_bind,run_underlying hT,Result.andThen,hc]
theorem byteNe_run {o:Oper} {ρ:Operand→Value} {w:World} {x y:Operand} {a b:Int} {r:Bool} {T T' : TypeId} (ho:o.op = .binOp .neq T x y T') (hx:ρ x = .int .u8 a) (hy:ρ y = .int .u8 b) (h:(a != b)=r) :
 (execOp ρ o).run Tryz.prog w = .ok (.value (.bool r)) w:=by
 simp only [execOp,ho,hx,hy]
 refine run_v ?_
 rw [← h]
 exact evalP_run (by kernel_rfl) w
theorem intEq_run {o:Oper} {ρ:Operand→Value} {w:World} {x y:Operand} {a b:Int} {r:Bool} {T T' : TypeId} (ho:o.op = .binOp .eql T x y T') (hx:ρ x = .int .i64 a) (hy:ρ y = .int .i64 b) (h:(a==b)=r) :
 (execOp ρ o).run Tryz.prog w = .ok (.value (.bool r)) w:=by
 simp only [execOp,ho,hx,hy]
 refine run_v ?_
 rw [← h]
 exact evalP_run (by kernel_rfl) w
theorem seq_run {o:Oper} {ρ:Operand→Value} {w:World} {x y:Operand} {a b:ByteArray} {r:Bool} {T T' : TypeId} (ho:o.op = .binOp .eql T x y T') (hx:ρ x = .string a) (hy:ρ y = .string b) (h:(a.toList==b.toList)=r) :
 (execOp ρ o).run Tryz.prog w = .ok (.value (.bool r)) w:=by
 simp only [execOp,ho,hx,hy]
 refine run_v ?_
 rw [← h]
 exact evalP_run (by kernel_rfl) w
abbrev isB (n:Int):Seg Kn := .sp (csIs (.int .u8 n) rfl true (fun _=>rfl))
theorem isPlainF (n:Nat):Fits Tryz.prog 95 [tx (decB n)] (bl true):=by
 have hd:=natOf_dec n
 have hsz:0<(decB n).size:=by
  have:(Lib.decDigits n).length≠0:=fun h=>hd.2.2 (List.eq_nil_of_length_eq_zero h)
  have e:(decB n).size=(Lib.decDigits n).length:=by simp [decB,ByteArray.size]
  omega
 have hlen:0<(Lib.decDigits n).length:=List.length_pos_iff.2 hd.2.2
 obtain ⟨c,hcl⟩:∃ c,(Lib.decDigits n)[0]?=some c:=⟨_,List.getElem?_eq_getElem hlen⟩
 have hc:(decB n)[0]?=some c:=by
  rw [getElem?_pos (decB n) 0 hsz]
  have:(decB n)[0]'hsz=(Lib.decDigits n)[0]'hlen:=by
   first
    | rfl
    | exact List.getElem_toArray _
  rw [this,← hcl,List.getElem?_eq_getElem hlen]
 by_cases h:c=48
 ·have hone:(decB n).size=1:=by
   have h0:n=0:=by
    rcases Nat.eq_zero_or_pos n with e|e
    ·exact e
    ·exfalso
     have:=dec_head e
     rw [List.head?_eq_getElem?,hcl,h] at this
     exact this rfl
   subst h0
   simp only [decB]
   rw [dec_small (by omega)]
   rfl
  have h1:(((c.toNat:Nat):Int) != 48)=false:=by rw [h];rfl
  have h2:(((decB n).size:Int)==1)=true:=by rw [hone];rfl
  refine kgo Tryz.func95 (by kernel_rfl) fun w00=>?_
  refine kcall 125 [tx (decB n)] (isDigitsF hd.2.1 hsz) (by kernel_rfl) Tryz.call125 ?_
  refine kop2 (.index 9 (.tmp 6) (.const (.int .i64 0))) (.tmp 6) (.const (.int .i64 0)) (tx (decB n)) (it 0) (.fv (.sc (isB c.toNat))) (by kernel_rfl) (by simp [Op.operands]) (by simp [Op.operands]) (fun ρ o β w ho hx hy=>⟨_,index_run (i:=0) ho Tryz.underlying9 (hold_is hx) (hold_lit hy) hc,is_hold⟩) ?_
  refine kop2 (.binOp .neq 5 (.tmp 7) (.const (.int .u8 48)) 5) (.tmp 7) (.const (.int .u8 48)) (.fv (.sc (isB c.toNat))) (.fv (.sc (.lit (.int .u8 48)))) (bl false) (by kernel_rfl) (by simp [Op.operands]) (by simp [Op.operands]) (fun ρ o β w ho hx hy=>⟨_,byteNe_run ho (hold_is hx) (hold_lit hy) h1,lit_hold rfl⟩) ?_
  refine klen 10 (decB n) (by kernel_rfl) ?_
  refine kop2 (.binOp .eql 3 (.tmp 11) (.const (.int .i64 1)) 3) (.tmp 11) (.const (.int .i64 1)) (.fv (.sc (isI (decB n).size))) (it 1) (bl true) (by kernel_rfl) (by simp [Op.operands]) (by simp [Op.operands]) (fun ρ o β w ho hx hy=>⟨_,intEq_run ho (hold_is hx) (hold_lit hy) h2,lit_hold rfl⟩) ?_
  exact kret Tryz.func95 (by kernel_rfl)
 ·have h1:(((c.toNat:Nat):Int) != 48)=true:=by
   rw [bne_iff_ne]
   intro e
   exact h (UInt8.toNat_inj.1 (by have:(48:UInt8).toNat=48:=rfl;omega))
  refine kgo Tryz.func95 (by kernel_rfl) fun w00=>?_
  refine kcall 125 [tx (decB n)] (isDigitsF hd.2.1 hsz) (by kernel_rfl) Tryz.call125 ?_
  refine kop2 (.index 9 (.tmp 6) (.const (.int .i64 0))) (.tmp 6) (.const (.int .i64 0)) (tx (decB n)) (it 0) (.fv (.sc (isB c.toNat))) (by kernel_rfl) (by simp [Op.operands]) (by simp [Op.operands]) (fun ρ o β w ho hx hy=>⟨_,index_run (i:=0) ho Tryz.underlying9 (hold_is hx) (hold_lit hy) hc,is_hold⟩) ?_
  refine kop2 (.binOp .neq 5 (.tmp 7) (.const (.int .u8 48)) 5) (.tmp 7) (.const (.int .u8 48)) (.fv (.sc (isB c.toNat))) (.fv (.sc (.lit (.int .u8 48)))) (bl true) (by kernel_rfl) (by simp [Op.operands]) (by simp [Op.operands]) (fun ρ o β w ho hx hy=>⟨_,byteNe_run ho (hold_is hx) (hold_lit hy) h1,lit_hold rfl⟩) ?_
  exact kret Tryz.func95 (by kernel_rfl)
end Go.Proofs.YtbhcckhbbclemaaGreatDoor.Ab
namespace Go.Proofs.YtbhcckhbbclemaaGreatDoor.Ab
open Go.RowKit Go.Proofs.YtbhcckhbbclemaaGreatDoor Pl
theorem index_none47:∀ {l:List UInt8},AllDig l→Lib.index l [47] = -1
 | [],_=>rfl
 | c :: l,h=>by
   have hc:=h c (by simp)
   have h2:([47]:List UInt8).isPrefixOf (c::l)=false:=by
    simp [List.isPrefixOf]
    intro e
    rw [← e] at hc
    revert hc
    decide
   unfold Lib.index
   rw [h2,index_none47 (fun d hd=>h d (by simp [hd]))]
   rfl
theorem index_at47:∀ {l r:List UInt8},AllDig l→Lib.index (l++47::r) [47]=(l.length:Int)
 | [],r,_=>by
   unfold Lib.index
   rfl
 | c :: l,r,h=>by
   have hc:=h c (by simp)
   have h2:([47]:List UInt8).isPrefixOf (c::(l++47::r))=false:=by
    simp [List.isPrefixOf]
    intro e
    rw [← e] at hc
    revert hc
    decide
   have ih:=index_at47 (l:=l) (r:=r) (fun d hd=>h d (by simp [hd]))
   rw [List.cons_append]
   unfold Lib.index
   rw [h2,ih]
   have:((l.length:Int) == -1)=false:=by rw [beq_eq_false_iff_ne];omega
   rw [this]
   simp
def bodyB (q:Rat):ByteArray:=if q.den=1 then decB q.num.natAbs else decB q.num.natAbs++(⟨#[47]⟩++decB q.den)
theorem ba_ext {a b:ByteArray} (h:a.data.toList=b.data.toList):a=b:=by
 cases a;cases b
 simp only [ByteArray.mk.injEq]
 exact Array.toList_inj.1 h
theorem decB_list (n:Nat):(decB n).data.toList=Lib.decDigits n:=by simp [decB]
theorem write_neg {q:Rat} (h:q.num<0):writeB q=⟨#[45]⟩++bodyB q:=by
 apply ba_ext
 unfold writeB bodyB overB
 split <;> simp [h]
theorem write_pos {q:Rat} (h:¬ q.num<0):writeB q=bodyB q:=by
 unfold writeB bodyB overB
 simp only [h,if_false]
theorem body_list (q:Rat):∃ c r,(bodyB q).data.toList=c::r∧(48≤c.toNat∧c.toNat≤57):=by
 have hd:=natOf_dec q.num.natAbs
 obtain ⟨c,r,hl⟩:∃ c r,Lib.decDigits q.num.natAbs=c::r:=by
  cases h:Lib.decDigits q.num.natAbs with
  | nil=>exact absurd h hd.2.2
  | cons c r=>exact ⟨c,r,rfl⟩
 have hc:=hd.2.1 c (by rw [hl];simp)
 unfold bodyB
 split
 ·exact ⟨c,r,by rw [decB_list,hl],hc⟩
 ·exact ⟨c,r++(⟨#[47]⟩++decB q.den:ByteArray).data.toList,by rw [ByteArray.toList_data_append,decB_list,hl];rfl,hc⟩
theorem cutPrefixF {q:Rat} {neg:Bool} (hn:decide (q.num<0)=neg):Fits Tryz.prog 61 [tx (writeB q),lt ⟨#[45]⟩] (.tup [.sc (isS (bodyB q)),.sc (.lit (.bool neg))]):=by
 intro β w vs hv
 obtain ⟨v,u,rfl,h1,h2⟩:=args2 hv
 rw [hold_is h1,hold_lit h2]
 have key:(⟨(Lib.trimPrefix (writeB q).data.toList [45]).toArray⟩:ByteArray)=bodyB q∧Lib.hasPrefix (writeB q).data.toList [45]=neg:=by
  by_cases h:q.num<0
  ·have hneg:neg=true:=by rw [← hn];simpa using h
   rw [write_neg h,hneg]
   have e:(⟨#[45]⟩++bodyB q:ByteArray).data.toList=45::(bodyB q).data.toList:=by rw [ByteArray.toList_data_append];rfl
   rw [e]
   refine ⟨ba_ext (by simp [Lib.trimPrefix,Lib.hasPrefix]),by simp [Lib.hasPrefix]⟩
  ·have hneg:neg=false:=by rw [← hn];simpa using h
   rw [write_pos h,hneg]
   obtain ⟨c,r,e,hc⟩:=body_list q
   have hp:Lib.hasPrefix (bodyB q).data.toList [45]=false:=by
    rw [e]
    simp [Lib.hasPrefix,List.isPrefixOf]
    intro h45
    rw [← h45] at hc
    revert hc
    decide
   refine ⟨ba_ext (by unfold Lib.trimPrefix;rw [hp];simp),hp⟩
 refine (Tryz.strings_CutPrefix (writeB q) ⟨#[45]⟩ w).mono fun e w' ⟨e1,e2⟩=>⟨_,e1,by rw [e2];exact Below.refl _ _,?_⟩
 rw [show (⟨#[45]⟩:ByteArray).data.toList = [45] from rfl,key.1,key.2]
 exact ⟨[.string (bodyB q),.bool neg],rfl,_,_,rfl,is_hold (β:=β),_,_,rfl,⟨rfl,rfl⟩,rfl⟩
theorem cutF {s a b:ByteArray} {r:Bool} (hs:s.size<4294967281) (h:Lib.cut s.data.toList [47]=(a.data.toList,b.data.toList,r)):FitsW Tryz.prog Gl 94 [tx s,lt ⟨#[47]⟩] (.tup [.sc (isS a),.sc (isS b),.sc (.lit (.bool r))]):=by
 intro β w vs hG hv
 obtain ⟨v,u,rfl,h1,h2⟩:=args2 hv
 rw [hold_is h1,hold_lit h2]
 obtain ⟨m,hm⟩:=hG.2
 refine (Tryz.strings_Cut s ⟨#[47]⟩ m w hs hm).mono fun e w' ⟨e1,n,e2⟩=>⟨_,e1,by rw [e2];exact below_drewN w n,?_⟩
 rw [show (⟨#[47]⟩:ByteArray).data.toList = [47] from rfl,h]
 have ea:(⟨a.data.toList.toArray⟩:ByteArray)=a:=ba_ext (by simp)
 have eb:(⟨b.data.toList.toArray⟩:ByteArray)=b:=ba_ext (by simp)
 simp only [ea,eb]
 exact ⟨[.string a,.string b,.bool r],rfl,_,_,rfl,is_hold (β:=β),_,_,rfl,is_hold (β:=β),_,_,rfl,⟨rfl,rfl⟩,rfl⟩
theorem cut_whole {q:Rat} (h:q.den=1):Lib.cut (bodyB q).data.toList [47]=((decB q.num.natAbs).data.toList,(⟨#[]⟩:ByteArray).data.toList,false):=by
 unfold bodyB Lib.cut
 rw [if_pos h,decB_list,index_none47 (natOf_dec q.num.natAbs).2.1]
 rfl
theorem cut_parts {q:Rat} (h:q.den≠1):Lib.cut (bodyB q).data.toList [47]=((decB q.num.natAbs).data.toList,(decB q.den).data.toList,true):=by
 unfold bodyB Lib.cut
 have e:(decB q.num.natAbs++(⟨#[47]⟩++decB q.den):ByteArray).data.toList=Lib.decDigits q.num.natAbs++47::Lib.decDigits q.den:=by
  rw [ByteArray.toList_data_append,ByteArray.toList_data_append,decB_list,decB_list];rfl
 rw [if_neg h,e,index_at47 (natOf_dec q.num.natAbs).2.1,if_pos (by omega),decB_list,decB_list]
 simp
theorem naturalTextF {n:Nat} (h:(decB n).size≤100000):Fits Tryz.prog 64 [tx (decB n)] (nt n):=by
 intro β w vs hv
 obtain ⟨v,rfl,h1⟩:=args1 hv
 rw [hold_is h1]
 have e:bytesOf (decB n)=Lib.decDigits n:=decB_list n
 refine (naturalText_any (decB n) w h (by rw [e];exact (natOf_dec n).2.1)).mono fun e' w' ⟨u,e1,h1,h2⟩=>⟨u,e1,h2,?_⟩
 rw [e,(natOf_dec n).1] at h1
 exact nt_holds.2 h1
theorem naturalOneF:Fits Tryz.prog 64 [lt ⟨#[49]⟩] (nt 1):=by
 intro β w vs hv
 obtain ⟨v,rfl,h1⟩:=args1 hv
 have e:decB 1=⟨#[49]⟩:=by unfold decB;rw [dec_small (by omega)];rfl
 exact naturalTextF (n:=1) (by rw [e];decide) β w _ ⟨v,[],rfl,by rw [hold_lit h1,← e];exact is_hold,rfl⟩
theorem isOneF {n:Nat} {b:Bool} (h:decide (n=1)=b):Fits Tryz.prog 97 [nt n] (bl b):=by
 intro β w vs hv
 obtain ⟨v,rfl,h1⟩:=args1 hv
 refine (nt_isOne (nt_holds.1 h1)).mono fun e w' ⟨e1,e2⟩=>⟨_,e1,by rw [e2];exact Below.refl _ _,?_⟩
 rw [h]
 exact lit_hold rfl
theorem numberVF {q:Rat} {neg:Bool} (h:decide (q.num<0)=neg):Fits Tryz.prog 65 [frv neg q.num.natAbs q.den] (num q):=by
 rw [← h]
 exact numberF
section
variable {f:FuncId} {w00:World} {Out:Value→World→Prop}
theorem klenL {c:Cfg Kn} (t:Tmp) (s:ByteArray) (hc:(c.op.map fun o=>o.op,c.okT (.fv (.sc (isI s.size))),c.ev (.tmp t))=(some (.call ⟨.builtin .len,#[.tmp t],#[9]⟩),true,lt s))
 (hg:Ok Tryz.prog f w00 Out (runA Tryz.prog 1000 (c.give (.fv (.sc (isI s.size)))))):Ok Tryz.prog f w00 Out c:=by
 simp only [Prod.mk.injEq] at hc
 obtain ⟨h1,h2,h3⟩:=hc
 exact kop2 _ (.tmp t) (.tmp t) (lt s) (lt s) (.fv (.sc (isI s.size))) (by rw [h1,h2,h3]) (by simp [Op.operands,Call.operands]) (by simp [Op.operands,Call.operands])
  (fun ρ o β w ho hx _=>⟨_,len_run ho Tryz.underlying9 (hold_lit hx),is_hold⟩) hg
theorem kgt {c:Cfg Kn} (t:Tmp) (a b:Int) (r:Bool) (h:decide (b<a)=r) (hc:(c.op.map fun o=>o.op,c.okT (bl r),c.ev (.tmp t),c.ev (.const (.int .i64 b)))=(some (.binOp .gtr 3 (.tmp t) (.const (.int .i64 b)) 3),true,.fv (.sc (isI a)),it b))
 (hg:Ok Tryz.prog f w00 Out (runA Tryz.prog 1000 (c.give (bl r)))):Ok Tryz.prog f w00 Out c :=
 kop2 _ (.tmp t) (.const (.int .i64 b)) _ _ (bl r) hc (by simp [Op.operands]) (by simp [Op.operands]) (fun ρ o β w ho hx hy=>⟨_,gt_run ho (hold_is hx) (hold_lit hy) h,lit_hold rfl⟩) hg
theorem kseq {c:Cfg Kn} (t:Tmp) (a b:ByteArray) (r:Bool) (h:(a.toList==b.toList)=r) (hc:(c.op.map fun o=>o.op,c.okT (bl r),c.ev (.tmp t),c.ev (.const (.string b)))=(some (.binOp .eql 9 (.tmp t) (.const (.string b)) 9),true,tx a,lt b))
 (hg:Ok Tryz.prog f w00 Out (runA Tryz.prog 1000 (c.give (bl r)))):Ok Tryz.prog f w00 Out c :=
 kop2 _ (.tmp t) (.const (.string b)) _ _ (bl r) hc (by simp [Op.operands]) (by simp [Op.operands]) (fun ρ o β w ho hx hy=>⟨_,seq_run ho (hold_is hx) (hold_lit hy) h,lit_hold rfl⟩) hg
end
theorem dec_eq_iff {n m:Nat} {b:ByteArray} (hb:decB m=b):((decB n).toList==b.toList)=decide (n=m):=by
 rw [← hb,Go.ByteArray.toList_eq,Go.ByteArray.toList_eq,decB_list,decB_list,Bool.eq_iff_iff]
 simp only [beq_iff_eq,decide_eq_true_eq]
 constructor
 ·intro h
  have:=(natOf_dec n).1
  rw [h,(natOf_dec m).1] at this
  exact this.symm
 ·rintro rfl
  rfl
theorem dec0:decB 0=⟨#[48]⟩:=by unfold decB;rw [dec_small (by omega)];rfl
theorem dec1:decB 1=⟨#[49]⟩:=by unfold decB;rw [dec_small (by omega)];rfl
structure Wr (q:Rat):Prop where
 n:(decB q.num.natAbs).size≤600
 d:(decB q.den).size≤600
theorem lv_of_size {n k:Nat} (h:(decB n).size≤19*2^k):Lv k n:=by
 have e:bytesOf (decB n)=Lib.decDigits n:=decB_list n
 have hd:=natOf_dec n
 refine lv_pow k (decB n).size h ?_
 have:=natOf_lt hd.2.1
 rw [hd.1] at this
 have hl:(decB n).size=(Lib.decDigits n).length:=by rw [← bytesOf_length,e]
 rw [hl]
 exact this
theorem Wr.lf {q:Rat} (h:Wr q):Lf 5 q:=⟨lv_of_size (by have:=h.n;omega),lv_of_size (by have:=h.d;omega)⟩
theorem body_size {q:Rat} (h:Wr q):(bodyB q).size<4294967281:=by
 have h1:=h.n
 have h2:=h.d
 have:(⟨#[47]⟩:ByteArray).size=1:=rfl
 unfold bodyB
 split <;> simp <;> omega
theorem readF {q:Rat} (h:Wr q):FitsW Tryz.prog Gl 30 [tx (writeB q)] (.tup [.ag [nb q],.sc (.lit (.int .i64 0))]):=by
 have g1:decide ((600:Int)<((decB q.num.natAbs).size:Int))=false:=by have:=h.n;simp;omega
 have g2:decide ((600:Int)<((decB q.den).size:Int))=false:=by have:=h.d;simp;omega
 have g3:decide ((600:Int)<(((⟨#[49]⟩:ByteArray).size:Nat):Int))=false:=by decide
 have hsz:=body_size h
 have s1:=h.n
 have s2:=h.d
 by_cases hn:q.num<0
 ·have hneg:decide (q.num<0)=true:=by simpa using hn
  have hz:((decB q.num.natAbs).toList==(⟨#[48]⟩:ByteArray).toList)=false:=by rw [dec_eq_iff dec0,decide_eq_false_iff_not];omega
  by_cases hd:q.den=1
  ·skip
   refine kgoW Tryz.func30 (by kernel_rfl) fun w00 hG=>?_;have hI:=keepGl hG
   refine kcall 61 [tx (writeB q),lt ⟨#[45]⟩] (cutPrefixF hneg) (by kernel_rfl) Tryz.call61 ?_
   refine kcallW hI 94 [tx (bodyB q),lt ⟨#[47]⟩] (cutF (a:=decB q.num.natAbs) (b:=⟨#[]⟩) (r:=false) hsz (cut_whole hd)) (by kernel_rfl) Tryz.call94 ?_
   refine kcall 95 [tx (decB q.num.natAbs)] (isPlainF _) (by kernel_rfl) Tryz.call95 ?_
   refine kseq 31 (decB q.num.natAbs) ⟨#[48]⟩ false hz (by kernel_rfl) ?_
   refine klen 53 (decB q.num.natAbs) (by kernel_rfl) ?_
   refine kgt 54 (decB q.num.natAbs).size 600 false g1 (by kernel_rfl) ?_
   refine klenL 57 ⟨#[49]⟩ (by kernel_rfl) ?_
   refine kgt 58 ((⟨#[49]⟩:ByteArray).size:Nat) 600 false g3 (by kernel_rfl) ?_
   refine kcall 64 [tx (decB q.num.natAbs)] (naturalTextF (by omega)) (by kernel_rfl) Tryz.call64 ?_
   refine kcall 64 [lt ⟨#[49]⟩] (naturalOneF) (by kernel_rfl) Tryz.call64 ?_
   refine kcall 65 [frv true q.num.natAbs 1] ((by rw [← hd];exact numberVF hneg)) (by kernel_rfl) Tryz.call65 ?_
   exact kret Tryz.func30 (by kernel_rfl)
  ·skip
   have y0:((decB q.den).toList==(⟨#[48]⟩:ByteArray).toList)=false:=by rw [dec_eq_iff dec0,decide_eq_false_iff_not];have:=q.den_pos;omega
   have y1:((decB q.den).toList==(⟨#[49]⟩:ByteArray).toList)=false:=by rw [dec_eq_iff dec1];simpa using hd
   refine kgoW Tryz.func30 (by kernel_rfl) fun w00 hG=>?_;have hI:=keepGl hG
   refine kcall 61 [tx (writeB q),lt ⟨#[45]⟩] (cutPrefixF hneg) (by kernel_rfl) Tryz.call61 ?_
   refine kcallW hI 94 [tx (bodyB q),lt ⟨#[47]⟩] (cutF (a:=decB q.num.natAbs) (b:=decB q.den) (r:=true) hsz (cut_parts hd)) (by kernel_rfl) Tryz.call94 ?_
   refine kcall 95 [tx (decB q.num.natAbs)] (isPlainF _) (by kernel_rfl) Tryz.call95 ?_
   refine kseq 31 (decB q.num.natAbs) ⟨#[48]⟩ false hz (by kernel_rfl) ?_
   refine kcall 95 [tx (decB q.den)] (isPlainF _) (by kernel_rfl) Tryz.call95 ?_
   refine kseq 43 (decB q.den) ⟨#[48]⟩ false y0 (by kernel_rfl) ?_
   refine kseq 47 (decB q.den) ⟨#[49]⟩ false y1 (by kernel_rfl) ?_
   refine klen 53 (decB q.num.natAbs) (by kernel_rfl) ?_
   refine kgt 54 (decB q.num.natAbs).size 600 false g1 (by kernel_rfl) ?_
   refine klen 57 (decB q.den) (by kernel_rfl) ?_
   refine kgt 58 (decB q.den).size 600 false g2 (by kernel_rfl) ?_
   refine kcall 64 [tx (decB q.num.natAbs)] (naturalTextF (by omega)) (by kernel_rfl) Tryz.call64 ?_
   refine kcall 64 [tx (decB q.den)] (naturalTextF (by omega)) (by kernel_rfl) Tryz.call64 ?_
   refine kcall 96 [nt q.num.natAbs,nt q.den] (gcdF (h.lf.1.mono (by decide)) (h.lf.2.mono (by decide)) (.inr q.den_pos)) (by kernel_rfl) Tryz.call96 ?_
   refine kcall 97 [nt (Nat.gcd q.num.natAbs q.den)] (isOneF (b:=true) (by rw [decide_eq_true_eq];exact q.reduced)) (by kernel_rfl) Tryz.call97 ?_
   refine kcall 65 [frv true q.num.natAbs q.den] (numberVF hneg) (by kernel_rfl) Tryz.call65 ?_
   exact kret Tryz.func30 (by kernel_rfl)
 ·have hneg:decide (q.num<0)=false:=by simpa using hn
  by_cases hd:q.den=1
  ·skip
   refine kgoW Tryz.func30 (by kernel_rfl) fun w00 hG=>?_;have hI:=keepGl hG
   refine kcall 61 [tx (writeB q),lt ⟨#[45]⟩] (cutPrefixF hneg) (by kernel_rfl) Tryz.call61 ?_
   refine kcallW hI 94 [tx (bodyB q),lt ⟨#[47]⟩] (cutF (a:=decB q.num.natAbs) (b:=⟨#[]⟩) (r:=false) hsz (cut_whole hd)) (by kernel_rfl) Tryz.call94 ?_
   refine kcall 95 [tx (decB q.num.natAbs)] (isPlainF _) (by kernel_rfl) Tryz.call95 ?_
   refine klen 53 (decB q.num.natAbs) (by kernel_rfl) ?_
   refine kgt 54 (decB q.num.natAbs).size 600 false g1 (by kernel_rfl) ?_
   refine klenL 57 ⟨#[49]⟩ (by kernel_rfl) ?_
   refine kgt 58 ((⟨#[49]⟩:ByteArray).size:Nat) 600 false g3 (by kernel_rfl) ?_
   refine kcall 64 [tx (decB q.num.natAbs)] (naturalTextF (by omega)) (by kernel_rfl) Tryz.call64 ?_
   refine kcall 64 [lt ⟨#[49]⟩] (naturalOneF) (by kernel_rfl) Tryz.call64 ?_
   refine kcall 65 [frv false q.num.natAbs 1] ((by rw [← hd];exact numberVF hneg)) (by kernel_rfl) Tryz.call65 ?_
   exact kret Tryz.func30 (by kernel_rfl)
  ·skip
   have y0:((decB q.den).toList==(⟨#[48]⟩:ByteArray).toList)=false:=by rw [dec_eq_iff dec0,decide_eq_false_iff_not];have:=q.den_pos;omega
   have y1:((decB q.den).toList==(⟨#[49]⟩:ByteArray).toList)=false:=by rw [dec_eq_iff dec1];simpa using hd
   refine kgoW Tryz.func30 (by kernel_rfl) fun w00 hG=>?_;have hI:=keepGl hG
   refine kcall 61 [tx (writeB q),lt ⟨#[45]⟩] (cutPrefixF hneg) (by kernel_rfl) Tryz.call61 ?_
   refine kcallW hI 94 [tx (bodyB q),lt ⟨#[47]⟩] (cutF (a:=decB q.num.natAbs) (b:=decB q.den) (r:=true) hsz (cut_parts hd)) (by kernel_rfl) Tryz.call94 ?_
   refine kcall 95 [tx (decB q.num.natAbs)] (isPlainF _) (by kernel_rfl) Tryz.call95 ?_
   refine kcall 95 [tx (decB q.den)] (isPlainF _) (by kernel_rfl) Tryz.call95 ?_
   refine kseq 43 (decB q.den) ⟨#[48]⟩ false y0 (by kernel_rfl) ?_
   refine kseq 47 (decB q.den) ⟨#[49]⟩ false y1 (by kernel_rfl) ?_
   refine klen 53 (decB q.num.natAbs) (by kernel_rfl) ?_
   refine kgt 54 (decB q.num.natAbs).size 600 false g1 (by kernel_rfl) ?_
   refine klen 57 (decB q.den) (by kernel_rfl) ?_
   refine kgt 58 (decB q.den).size 600 false g2 (by kernel_rfl) ?_
   refine kcall 64 [tx (decB q.num.natAbs)] (naturalTextF (by omega)) (by kernel_rfl) Tryz.call64 ?_
   refine kcall 64 [tx (decB q.den)] (naturalTextF (by omega)) (by kernel_rfl) Tryz.call64 ?_
   refine kcall 96 [nt q.num.natAbs,nt q.den] (gcdF (h.lf.1.mono (by decide)) (h.lf.2.mono (by decide)) (.inr q.den_pos)) (by kernel_rfl) Tryz.call96 ?_
   refine kcall 97 [nt (Nat.gcd q.num.natAbs q.den)] (isOneF (b:=true) (by rw [decide_eq_true_eq];exact q.reduced)) (by kernel_rfl) Tryz.call97 ?_
   refine kcall 65 [frv false q.num.natAbs q.den] (numberVF hneg) (by kernel_rfl) Tryz.call65 ?_
   exact kret Tryz.func30 (by kernel_rfl)
abbrev z0:Seg Kn := .lit (.int .i64 0)
theorem first2F {T:TypeId}:Fits Tryz.prog 74 [.fv (.nsl 2 T [z0,z0])] (it 0):=by
 refine kgoS Tryz.func74 (by kernel_rfl) fun w00=>?_
 exact kret Tryz.func74 (by kernel_rfl)
theorem first3F {T:TypeId}:Fits Tryz.prog 74 [.fv (.nsl 3 T [z0,z0,z0])] (it 0):=by
 refine kgoS Tryz.func74 (by kernel_rfl) fun w00=>?_
 exact kret Tryz.func74 (by kernel_rfl)
theorem first4F {T:TypeId}:Fits Tryz.prog 74 [.fv (.nsl 4 T [z0,z0,z0,z0])] (it 0):=by
 refine kgoS Tryz.func74 (by kernel_rfl) fun w00=>?_
 exact kret Tryz.func74 (by kernel_rfl)
abbrev vS (a b c:Rat):AV Kn := .fv (.ag [isS (writeB a),isS (writeB b),isS (writeB c)])
abbrev okV (a b c:Rat):AV Kn := .tup [.ag [nb a,nb b,nb c],.sc z0]
abbrev Wr3 (a b c:Rat):Prop:=Wr a∧Wr b∧Wr c
theorem readVecF {a b c:Rat} (h:Wr3 a b c):FitsW Tryz.prog Gl 31 [vS a b c] (okV a b c):=by
 refine kgoW Tryz.func31 (by kernel_rfl) fun w00 hG=>?_;have hI:=keepGl hG
 refine kcallW hI 30 [tx (writeB a)] (readF h.1) (by kernel_rfl) Tryz.call30 ?_
 refine kcallW hI 30 [tx (writeB b)] (readF h.2.1) (by kernel_rfl) Tryz.call30 ?_
 refine kcallW hI 30 [tx (writeB c)] (readF h.2.2) (by kernel_rfl) Tryz.call30 ?_
 refine kcallS 74 3 3 144 [z0,z0,z0] (first3F) (by kernel_rfl) Tryz.call74 ?_
 exact kret Tryz.func31 (by kernel_rfl)
theorem writeVecF {a b c:Rat} (h:Wr3 a b c) (ha:Lf 20 a) (hb:Lf 20 b) (hc:Lf 20 c):FitsW Tryz.prog Gl 58 [vc a b c] (.tup [.ag [isS (writeB a),isS (writeB b),isS (writeB c)],.sc z0]):=by
 refine kgoW Tryz.func58 (by kernel_rfl) fun w00 hG=>?_;have hI:=keepGl hG
 refine kcallW hI 66 [num a] (writeF ha h.1.n h.1.d) (by kernel_rfl) Tryz.call66 ?_
 refine kcallW hI 66 [num b] (writeF hb h.2.1.n h.2.1.d) (by kernel_rfl) Tryz.call66 ?_
 refine kcallW hI 66 [num c] (writeF hc h.2.2.n h.2.2.d) (by kernel_rfl) Tryz.call66 ?_
 exact kret Tryz.func58 (by kernel_rfl)
section
variable {a b c x y z u v d e:Rat}
theorem readRV (h:Wr a) (k:Wr3 x y z):FitsW Tryz.prog Gl 29 [fnv 30,tx (writeB a),fnv 31,vS x y z] (.tup [.ag [nb a],.ag [nb x,nb y,nb z],.sc z0]):=by
 refine kgoW Tryz.func29 (by kernel_rfl) fun w00 hG=>?_;have hI:=keepGl hG
 refine kcallW hI 30 [tx (writeB a)] (readF h) (by kernel_rfl) Tryz.call30 ?_
 refine kcallW hI 31 [vS x y z] (readVecF k) (by kernel_rfl) Tryz.call31 ?_
 refine kcall 74 [.fv (.nsl 2 33 [z0,z0])] (first2F) (by kernel_rfl) Tryz.call74 ?_
 exact kret Tryz.func29 (by kernel_rfl)
theorem readVV (h:Wr3 a b c) (k:Wr3 x y z):FitsW Tryz.prog Gl 67 [fnv 31,vS a b c,fnv 31,vS x y z] (.tup [.ag [nb a,nb b,nb c],.ag [nb x,nb y,nb z],.sc z0]):=by
 refine kgoW Tryz.func67 (by kernel_rfl) fun w00 hG=>?_;have hI:=keepGl hG
 refine kcallW hI 31 [vS a b c] (readVecF h) (by kernel_rfl) Tryz.call31 ?_
 refine kcallW hI 31 [vS x y z] (readVecF k) (by kernel_rfl) Tryz.call31 ?_
 refine kcall 74 [.fv (.nsl 2 33 [z0,z0])] (first2F) (by kernel_rfl) Tryz.call74 ?_
 exact kret Tryz.func67 (by kernel_rfl)
theorem readVR (h:Wr3 a b c) (k:Wr d):FitsW Tryz.prog Gl 72 [fnv 31,vS a b c,fnv 30,tx (writeB d)] (.tup [.ag [nb a,nb b,nb c],.ag [nb d],.sc z0]):=by
 refine kgoW Tryz.func72 (by kernel_rfl) fun w00 hG=>?_;have hI:=keepGl hG
 refine kcallW hI 31 [vS a b c] (readVecF h) (by kernel_rfl) Tryz.call31 ?_
 refine kcallW hI 30 [tx (writeB d)] (readF k) (by kernel_rfl) Tryz.call30 ?_
 refine kcall 74 [.fv (.nsl 2 33 [z0,z0])] (first2F) (by kernel_rfl) Tryz.call74 ?_
 exact kret Tryz.func72 (by kernel_rfl)
abbrev okS (q:Rat):AV Kn := .tup [.sc (isS (writeB q)),.sc z0]
abbrev okVS (a b c:Rat):AV Kn := .tup [.ag [isS (writeB a),isS (writeB b),isS (writeB c)],.sc z0]
theorem apiAlongF (h:Wr3 a b c) (k:Wr3 x y z) (h0:(decide (a=0)&&decide (b=0)&&decide (c=0))=false) (hc:(decide (b*z-c*y=0)&&decide (c*x-a*z=0)&&decide (a*y-b*x=0))=true)
 (hs:dt a b c a b c≠0) (hr:Wr (dt x y z a b c/dt a b c a b c)):FitsW Tryz.prog Gl 19 [vS a b c,vS x y z] (okS (dt x y z a b c/dt a b c a b c)):=by
 have l1:=h.1.lf
 have l2:=h.2.1.lf
 have l3:=h.2.2.lf
 have m1:=k.1.lf
 have m2:=k.2.1.lf
 have m3:=k.2.2.lf
 refine kgoW Tryz.func19 (by kernel_rfl) fun w00 hG=>?_;have hI:=keepGl hG
 refine kcallW hI 67 [fnv 31,vS a b c,fnv 31,vS x y z] (readVV h k) (by kernel_rfl) Tryz.call67 ?_
 refine kcall 33 [vc a b c] (vIsZeroF h0) (by kernel_rfl) Tryz.call33 ?_
 refine kcall 68 [vc a b c,vc x y z] (crossF (l1.mono (by decide)) (l2.mono (by decide)) (l3.mono (by decide)) (m1.mono (by decide)) (m2.mono (by decide)) (m3.mono (by decide))) (by kernel_rfl) Tryz.call68 ?_
 refine kcall 33 [vc (b*z-c*y) (c*x-a*z) (a*y-b*x)] (vIsZeroF hc) (by kernel_rfl) Tryz.call33 ?_
 refine kcall 69 [vc x y z,vc a b c] (dotF (m1.mono (by decide)) (m2.mono (by decide)) (m3.mono (by decide)) (l1.mono (by decide)) (l2.mono (by decide)) (l3.mono (by decide))) (by kernel_rfl) Tryz.call69 ?_
 refine kcall 71 [vc a b c] (squareF (l1.mono (by decide)) (l2.mono (by decide)) (l3.mono (by decide))) (by kernel_rfl) Tryz.call71 ?_
 refine kcall 70 [num (dt x y z a b c),num (dt a b c a b c)] (overF (lf_dt (n:=38) (m1.mono (by decide)) (m2.mono (by decide)) (m3.mono (by decide)) (l1.mono (by decide)) (l2.mono (by decide)) (l3.mono (by decide)) (by decide)) (lf_dt (n:=38) (l1.mono (by decide)) (l2.mono (by decide)) (l3.mono (by decide)) (l1.mono (by decide)) (l2.mono (by decide)) (l3.mono (by decide)) (by decide)) hs) (by kernel_rfl) Tryz.call70 ?_
 refine kcallW hI 66 [num (dt x y z a b c/dt a b c a b c)] (writeF (hr.lf.mono (by decide)) hr.n hr.d) (by kernel_rfl) Tryz.call66 ?_
 exact kret Tryz.func19 (by kernel_rfl)
end
end Go.Proofs.YtbhcckhbbclemaaGreatDoor.Ab
