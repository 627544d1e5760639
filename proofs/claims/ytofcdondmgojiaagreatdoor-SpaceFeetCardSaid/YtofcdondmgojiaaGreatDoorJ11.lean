/- Parts of the proof, joined. -/
import Derived.Test.YtofcdondmgojiaaGreatDoorJ10
set_option linter.unusedSimpArgs false
set_option linter.unusedVariables false
namespace Go.Proofs.YtofcdondmgojiaaGreatDoor
open Go.RowKit Pl
theorem fI (w:World) (s:ByteArray) (pos:Nat):Below w.heap.size w (w.iter s pos):=(Below.refl _ _).alloc (Nat.le_refl _) _
set_option maxRecDepth 100000 in
theorem isDigits_any (s:ByteArray) (w:World) (hd:AllDig (aC s)) (h0:0<s.size):Calls Tryz.prog 122 #[.string s] w fun e w'=>e = .returned (.bool true)∧Below w.heap.size w w':=by
 have hne:(!(s.toList==(⟨#[]⟩:ByteArray).toList))=true:=by
  rw [Go.ByteArray.toList_eq,Go.ByteArray.toList_eq]
  have:s.data.toList≠[]:=fun h=>by
   have h2:(aC s).length=0:=by simp only [aC];rw [h];rfl
   rw [aE] at h2
   omega
  simpa using this
 have H:=Lib.hid (And.intro hd (And.intro h0 hne))
 clear hd h0 hne
 go_enter Tryz.func122,Tryz.ntmps122
 go_wp2
 go_loopw [4] (fun _ wr => ∃ pos:Nat,wr=w.iter s pos∧pos≤s.size) (fun _ wr=>s.size-wr.iterPos w.heap.size)
 case atStart=>exact ⟨0,rfl,Nat.zero_le _⟩
 case round =>
  obtain ⟨pos,rfl,hpos⟩:=hrel
  by_cases hp:pos<s.size
  ·have hc:48≤(s[pos]'hp).toNat∧(s[pos]'hp).toNat≤57:=by
    have:=H.out.1 (s[pos]'hp) (by
     unfold aC
     rw [Array.mem_toList_iff]
     exact Array.getElem_mem _)
    exact this
   obtain ⟨c,hcc⟩:∃ c,c=(s[pos]'hp).toNat:=⟨_,rfl⟩
   have hnx:∀ ty,(Instr.next (.pointer (some ⟨w.heap.size,0,none⟩)) true ty).run Tryz.prog (w.iter s pos) = .ok (.tuple #[.bool true,.int .i64 pos,.int .i32 (c:Int)]) (w.iter s (pos+1)):=fun ty=>by
    rw [hcc]
    exact run_next_ascii w s pos ty hp (by omega)
   rw [← hcc] at hc
   have k1:(48:Int)≤c:=by omega
   have k2:(c:Int)≤57:=by omega
   have HH:=Lib.hid (And.intro hp hpos)
   clear hc hcc hp hpos
   go_wp2
   go_roundw
   case rel=>exact ⟨pos+1,rfl,HH.out.1⟩
   case measure =>
    have:=HH.out.1
    simp
    omega
  ·have hnx:∀ ty,(Instr.next (.pointer (some ⟨w.heap.size,0,none⟩)) true ty).run Tryz.prog (w.iter s pos)=_:=fun ty=>run_next_end w s pos ty hp
   have hne:=H.out.2.2
   go_wp2
   go_ret
   exact ⟨by simp at hne ⊢;exact hne,fI _ _ _⟩
end Go.Proofs.YtofcdondmgojiaaGreatDoor
namespace Go.Proofs.YtofcdondmgojiaaGreatDoor.Ab
open Go.RowKit Go.Proofs.YtofcdondmgojiaaGreatDoor Pl
theorem isDigitsF {s:ByteArray} (hd:AllDig (aC s)) (h0:0<s.size):Fits Tryz.prog 122 [tx s] (bl true):=by
 intro β w vs hv
 obtain ⟨v,rfl,h1⟩:=dN hv
 rw [aP h1]
 exact (isDigits_any s w hd h0).mono fun e w' ⟨e1,e2⟩=>⟨_,e1,e2,aX rfl⟩
theorem index_run {o:Oper} {ρ:Operand→Value} {w:World} {x y:Operand} {s:ByteArray} {i:Nat} {c:UInt8} {T:TypeId} (ho:o.op = .index T x y) (hT:Tryz.prog.underlying T=some .string) (hx:ρ x = .string s) (hy:ρ y = .int .i64 i) (hc:s[i]?=some c) :
 (execOp ρ o).run Tryz.prog w = .ok (.value (.int .u8 c.toNat)) w:=by
 simp only [execOp,ho,hx,hy]
 refine bK ?_
 simp [Instr.index,asIntOf,Sem.run_bind,run_underlying hT,Result.andThen,hc]
theorem byteNe_run {o:Oper} {ρ:Operand→Value} {w:World} {x y:Operand} {a b:Int} {r:Bool} {T T' : TypeId} (ho:o.op = .binOp .neq T x y T') (hx:ρ x = .int .u8 a) (hy:ρ y = .int .u8 b) (h:(a != b)=r) :
 (execOp ρ o).run Tryz.prog w = .ok (.value (.bool r)) w:=by
 simp only [execOp,ho,hx,hy]
 refine bK ?_
 rw [← h]
 exact bQ (by kernel_rfl) w
theorem intEq_run {o:Oper} {ρ:Operand→Value} {w:World} {x y:Operand} {a b:Int} {r:Bool} {T T' : TypeId} (ho:o.op = .binOp .eql T x y T') (hx:ρ x = .int .i64 a) (hy:ρ y = .int .i64 b) (h:(a==b)=r) :
 (execOp ρ o).run Tryz.prog w = .ok (.value (.bool r)) w:=by
 simp only [execOp,ho,hx,hy]
 refine bK ?_
 rw [← h]
 exact bQ (by kernel_rfl) w
theorem seq_run {o:Oper} {ρ:Operand→Value} {w:World} {x y:Operand} {a b:ByteArray} {r:Bool} {T T' : TypeId} (ho:o.op = .binOp .eql T x y T') (hx:ρ x = .string a) (hy:ρ y = .string b) (h:(a.toList==b.toList)=r) :
 (execOp ρ o).run Tryz.prog w = .ok (.value (.bool r)) w:=by
 simp only [execOp,ho,hx,hy]
 refine bK ?_
 rw [← h]
 exact bQ (by kernel_rfl) w
abbrev isB (n:Int):Seg Kn := .sp (csIs (.int .u8 n) rfl true (fun _=>rfl))
theorem isPlainF (n:Nat):Fits Tryz.prog 137 [tx (decB n)] (bl true):=by
 have hd:=cI n
 have hsz:0<(decB n).size:=by
  have:(Lib.decDigits n).length≠0:=fun h=>hd.2.2 (List.eq_nil_of_length_eq_zero h)
  have e:(decB n).size=(Lib.decDigits n).length:=by simp [decB,ByteArray.size]
  omega
 have hlen:0<(Lib.decDigits n).length:=List.length_pos_iff.2 hd.2.2
 obtain ⟨c,hcl⟩:∃ c,(Lib.decDigits n)[0]?=some c:=⟨_,List.getElem?_eq_getElem hlen⟩
 have hc:(decB n)[0]?=some c:=by
  rw [getElem?_pos (decB n) 0 hsz]
  have:(decB n)[0]'hsz=(Lib.decDigits n)[0]'hlen:=by
   first
    | rfl
    | exact List.getElem_toArray _
  rw [this,← hcl,List.getElem?_eq_getElem hlen]
 by_cases h:c=48
 ·have hone:(decB n).size=1:=by
   have h0:n=0:=by
    rcases Nat.eq_zero_or_pos n with e|e
    ·exact e
    ·exfalso
     have:=dec_head e
     rw [List.head?_eq_getElem?,hcl,h] at this
     exact this rfl
   subst h0
   simp only [decB]
   rw [dA (by omega)]
   rfl
  have h1:(((c.toNat:Nat):Int) != 48)=false:=by rw [h];rfl
  have h2:(((decB n).size:Int)==1)=true:=by rw [hone];rfl
  refine fX Tryz.func137 (by kernel_rfl) fun w00=>?_
  refine aB 122 [tx (decB n)] (isDigitsF hd.2.1 hsz) (by kernel_rfl) Tryz.call122 ?_
  refine dS (.index 9 (.tmp 6) (.const (.int .i64 0))) (.tmp 6) (.const (.int .i64 0)) (tx (decB n)) (it 0) (.fv (.sc (isB c.toNat))) (by kernel_rfl) (by simp [Op.operands]) (by simp [Op.operands]) (fun ρ o β w ho hx hy=>⟨_,index_run (i:=0) ho Tryz.underlying9 (aP hx) (aN hy) hc,bE⟩) ?_
  refine dS (.binOp .neq 5 (.tmp 7) (.const (.int .u8 48)) 5) (.tmp 7) (.const (.int .u8 48)) (.fv (.sc (isB c.toNat))) (.fv (.sc (.lit (.int .u8 48)))) (bl false) (by kernel_rfl) (by simp [Op.operands]) (by simp [Op.operands]) (fun ρ o β w ho hx hy=>⟨_,byteNe_run ho (aP hx) (aN hy) h1,aX rfl⟩) ?_
  refine klen 10 (decB n) (by kernel_rfl) ?_
  refine dS (.binOp .eql 3 (.tmp 11) (.const (.int .i64 1)) 3) (.tmp 11) (.const (.int .i64 1)) (.fv (.sc (isI (decB n).size))) (it 1) (bl true) (by kernel_rfl) (by simp [Op.operands]) (by simp [Op.operands]) (fun ρ o β w ho hx hy=>⟨_,intEq_run ho (aP hx) (aN hy) h2,aX rfl⟩) ?_
  exact aO Tryz.func137 (by kernel_rfl)
 ·have h1:(((c.toNat:Nat):Int) != 48)=true:=by
   rw [bne_iff_ne]
   intro e
   exact h (UInt8.toNat_inj.1 (by have:(48:UInt8).toNat=48:=rfl;omega))
  refine fX Tryz.func137 (by kernel_rfl) fun w00=>?_
  refine aB 122 [tx (decB n)] (isDigitsF hd.2.1 hsz) (by kernel_rfl) Tryz.call122 ?_
  refine dS (.index 9 (.tmp 6) (.const (.int .i64 0))) (.tmp 6) (.const (.int .i64 0)) (tx (decB n)) (it 0) (.fv (.sc (isB c.toNat))) (by kernel_rfl) (by simp [Op.operands]) (by simp [Op.operands]) (fun ρ o β w ho hx hy=>⟨_,index_run (i:=0) ho Tryz.underlying9 (aP hx) (aN hy) hc,bE⟩) ?_
  refine dS (.binOp .neq 5 (.tmp 7) (.const (.int .u8 48)) 5) (.tmp 7) (.const (.int .u8 48)) (.fv (.sc (isB c.toNat))) (.fv (.sc (.lit (.int .u8 48)))) (bl true) (by kernel_rfl) (by simp [Op.operands]) (by simp [Op.operands]) (fun ρ o β w ho hx hy=>⟨_,byteNe_run ho (aP hx) (aN hy) h1,aX rfl⟩) ?_
  exact aO Tryz.func137 (by kernel_rfl)
end Go.Proofs.YtofcdondmgojiaaGreatDoor.Ab
namespace Go.Proofs.YtofcdondmgojiaaGreatDoor.Ab
open Go.RowKit Go.Proofs.YtofcdondmgojiaaGreatDoor Pl
theorem index_none47:∀ {l:List UInt8},AllDig l→Lib.index l [47] = -1
 | [],_=>rfl
 | c :: l,h=>by
   have hc:=h c (by simp)
   have h2:([47]:List UInt8).isPrefixOf (c::l)=false:=by
    simp [List.isPrefixOf]
    intro e
    rw [← e] at hc
    revert hc
    decide
   unfold Lib.index
   rw [h2,index_none47 (fun d hd=>h d (by simp [hd]))]
   rfl
theorem index_at47:∀ {l r:List UInt8},AllDig l→Lib.index (l++47::r) [47]=(l.length:Int)
 | [],r,_=>by
   unfold Lib.index
   rfl
 | c :: l,r,h=>by
   have hc:=h c (by simp)
   have h2:([47]:List UInt8).isPrefixOf (c::(l++47::r))=false:=by
    simp [List.isPrefixOf]
    intro e
    rw [← e] at hc
    revert hc
    decide
   have ih:=index_at47 (l:=l) (r:=r) (fun d hd=>h d (by simp [hd]))
   rw [List.cons_append]
   unfold Lib.index
   rw [h2,ih]
   have:((l.length:Int) == -1)=false:=by rw [beq_eq_false_iff_ne];omega
   rw [this]
   simp
def aZ (q:Rat):ByteArray:=if q.den=1 then decB q.num.natAbs else decB q.num.natAbs++(⟨#[47]⟩++decB q.den)
theorem ba_ext {a b:ByteArray} (h:a.data.toList=b.data.toList):a=b:=by
 cases a;cases b
 simp only [ByteArray.mk.injEq]
 exact Array.toList_inj.1 h
theorem dH (n:Nat):(decB n).data.toList=Lib.decDigits n:=by simp [decB]
theorem write_neg {q:Rat} (h:q.num<0):writeB q=⟨#[45]⟩++aZ q:=by
 apply ba_ext
 unfold writeB aZ overB
 split <;> simp [h]
theorem eI {q:Rat} (h:¬ q.num<0):writeB q=aZ q:=by
 unfold writeB aZ overB
 simp only [h,if_false]
theorem body_list (q:Rat):∃ c r,(aZ q).data.toList=c::r∧(48≤c.toNat∧c.toNat≤57):=by
 have hd:=cI q.num.natAbs
 obtain ⟨c,r,hl⟩:∃ c r,Lib.decDigits q.num.natAbs=c::r:=by
  cases h:Lib.decDigits q.num.natAbs with
  | nil=>exact absurd h hd.2.2
  | cons c r=>exact ⟨c,r,rfl⟩
 have hc:=hd.2.1 c (by rw [hl];simp)
 unfold aZ
 split
 ·exact ⟨c,r,by rw [dH,hl],hc⟩
 ·exact ⟨c,r++(⟨#[47]⟩++decB q.den:ByteArray).data.toList,by rw [ByteArray.toList_data_append,dH,hl];rfl,hc⟩
theorem cutPrefixF {q:Rat} {neg:Bool} (hn:decide (q.num<0)=neg):Fits Tryz.prog 61 [tx (writeB q),lt ⟨#[45]⟩] (.tup [.sc (dG (aZ q)),.sc (.lit (.bool neg))]):=by
 intro β w vs hv
 obtain ⟨v,u,rfl,h1,h2⟩:=eN hv
 rw [aP h1,aN h2]
 have key:(⟨(Lib.trimPrefix (writeB q).data.toList [45]).toArray⟩:ByteArray)=aZ q∧Lib.hasPrefix (writeB q).data.toList [45]=neg:=by
  by_cases h:q.num<0
  ·have hneg:neg=true:=by rw [← hn];simpa using h
   rw [write_neg h,hneg]
   have e:(⟨#[45]⟩++aZ q:ByteArray).data.toList=45::(aZ q).data.toList:=by rw [ByteArray.toList_data_append];rfl
   rw [e]
   refine ⟨ba_ext (by simp [Lib.trimPrefix,Lib.hasPrefix]),by simp [Lib.hasPrefix]⟩
  ·have hneg:neg=false:=by rw [← hn];simpa using h
   rw [eI h,hneg]
   obtain ⟨c,r,e,hc⟩:=body_list q
   have hp:Lib.hasPrefix (aZ q).data.toList [45]=false:=by
    rw [e]
    simp [Lib.hasPrefix,List.isPrefixOf]
    intro h45
    rw [← h45] at hc
    revert hc
    decide
   refine ⟨ba_ext (by unfold Lib.trimPrefix;rw [hp];simp),hp⟩
 refine (Tryz.strings_CutPrefix (writeB q) ⟨#[45]⟩ w).mono fun e w' ⟨e1,e2⟩=>⟨_,e1,by rw [e2];exact Below.refl _ _,?_⟩
 rw [show (⟨#[45]⟩:ByteArray).data.toList = [45] from rfl,key.1,key.2]
 exact ⟨[.string (aZ q),.bool neg],rfl,_,_,rfl,bE (β:=β),_,_,rfl,⟨rfl,rfl⟩,rfl⟩
theorem cutF {s a b:ByteArray} {r:Bool} (hs:s.size<4294967281) (h:Lib.cut s.data.toList [47]=(a.data.toList,b.data.toList,r)):FitsW Tryz.prog Gl 136 [tx s,lt ⟨#[47]⟩] (.tup [.sc (dG a),.sc (dG b),.sc (.lit (.bool r))]):=by
 intro β w vs hG hv
 obtain ⟨v,u,rfl,h1,h2⟩:=eN hv
 rw [aP h1,aN h2]
 obtain ⟨m,hm⟩:=hG.2
 refine (Tryz.strings_Cut s ⟨#[47]⟩ m w hs hm).mono fun e w' ⟨e1,n,e2⟩=>⟨_,e1,by rw [e2];exact below_drewN w n,?_⟩
 rw [show (⟨#[47]⟩:ByteArray).data.toList = [47] from rfl,h]
 have ea:(⟨a.data.toList.toArray⟩:ByteArray)=a:=ba_ext (by simp)
 have eb:(⟨b.data.toList.toArray⟩:ByteArray)=b:=ba_ext (by simp)
 simp only [ea,eb]
 exact ⟨[.string a,.string b,.bool r],rfl,_,_,rfl,bE (β:=β),_,_,rfl,bE (β:=β),_,_,rfl,⟨rfl,rfl⟩,rfl⟩
theorem cut_whole {q:Rat} (h:q.den=1):Lib.cut (aZ q).data.toList [47]=((decB q.num.natAbs).data.toList,(⟨#[]⟩:ByteArray).data.toList,false):=by
 unfold aZ Lib.cut
 rw [if_pos h,dH,index_none47 (cI q.num.natAbs).2.1]
 rfl
theorem cut_parts {q:Rat} (h:q.den≠1):Lib.cut (aZ q).data.toList [47]=((decB q.num.natAbs).data.toList,(decB q.den).data.toList,true):=by
 unfold aZ Lib.cut
 have e:(decB q.num.natAbs++(⟨#[47]⟩++decB q.den):ByteArray).data.toList=Lib.decDigits q.num.natAbs++47::Lib.decDigits q.den:=by
  rw [ByteArray.toList_data_append,ByteArray.toList_data_append,dH,dH];rfl
 rw [if_neg h,e,index_at47 (cI q.num.natAbs).2.1,if_pos (by omega),dH,dH]
 simp
theorem bU {n:Nat} (h:(decB n).size≤100000):Fits Tryz.prog 64 [tx (decB n)] (nt n):=by
 intro β w vs hv
 obtain ⟨v,rfl,h1⟩:=dN hv
 rw [aP h1]
 have e:aC (decB n)=Lib.decDigits n:=dH n
 refine (naturalText_any (decB n) w h (by rw [e];exact (cI n).2.1)).mono fun e' w' ⟨u,e1,h1,h2⟩=>⟨u,e1,h2,?_⟩
 rw [e,(cI n).1] at h1
 exact dO.2 h1
theorem naturalOneF:Fits Tryz.prog 64 [lt ⟨#[49]⟩] (nt 1):=by
 intro β w vs hv
 obtain ⟨v,rfl,h1⟩:=dN hv
 have e:decB 1=⟨#[49]⟩:=by unfold decB;rw [dA (by omega)];rfl
 exact bU (n:=1) (by rw [e];decide) β w _ ⟨v,[],rfl,by rw [aN h1,← e];exact bE,rfl⟩
theorem isOneF {n:Nat} {b:Bool} (h:decide (n=1)=b):Fits Tryz.prog 127 [nt n] (bl b):=by
 intro β w vs hv
 obtain ⟨v,rfl,h1⟩:=dN hv
 refine (nt_isOne (dO.1 h1)).mono fun e w' ⟨e1,e2⟩=>⟨_,e1,by rw [e2];exact Below.refl _ _,?_⟩
 rw [h]
 exact aX rfl
theorem numberVF {q:Rat} {neg:Bool} (h:decide (q.num<0)=neg):Fits Tryz.prog 65 [frv neg q.num.natAbs q.den] (num q):=by
 rw [← h]
 exact numberF
section
variable {f:FuncId} {w00:World} {Out:Value→World→Prop}
theorem klenL {c:Cfg Kn} (t:Tmp) (s:ByteArray) (hc:(c.op.map fun o=>o.op,c.okT (.fv (.sc (isI s.size))),c.ev (.tmp t))=(some (.call ⟨.builtin .len,#[.tmp t],#[9]⟩),true,lt s))
 (hg:Ok Tryz.prog f w00 Out (dQ Tryz.prog 1000 (c.give (.fv (.sc (isI s.size)))))):Ok Tryz.prog f w00 Out c:=by
 simp only [Prod.mk.injEq] at hc
 obtain ⟨h1,h2,h3⟩:=hc
 exact dS _ (.tmp t) (.tmp t) (lt s) (lt s) (.fv (.sc (isI s.size))) (by rw [h1,h2,h3]) (by simp [Op.operands,Call.operands]) (by simp [Op.operands,Call.operands])
  (fun ρ o β w ho hx _=>⟨_,len_run ho Tryz.underlying9 (aN hx),bE⟩) hg
theorem kgt {c:Cfg Kn} (t:Tmp) (a b:Int) (r:Bool) (h:decide (b<a)=r) (hc:(c.op.map fun o=>o.op,c.okT (bl r),c.ev (.tmp t),c.ev (.const (.int .i64 b)))=(some (.binOp .gtr 3 (.tmp t) (.const (.int .i64 b)) 3),true,.fv (.sc (isI a)),it b))
 (hg:Ok Tryz.prog f w00 Out (dQ Tryz.prog 1000 (c.give (bl r)))):Ok Tryz.prog f w00 Out c :=
 dS _ (.tmp t) (.const (.int .i64 b)) _ _ (bl r) hc (by simp [Op.operands]) (by simp [Op.operands]) (fun ρ o β w ho hx hy=>⟨_,gt_run ho (aP hx) (aN hy) h,aX rfl⟩) hg
theorem kseq {c:Cfg Kn} (t:Tmp) (a b:ByteArray) (r:Bool) (h:(a.toList==b.toList)=r) (hc:(c.op.map fun o=>o.op,c.okT (bl r),c.ev (.tmp t),c.ev (.const (.string b)))=(some (.binOp .eql 9 (.tmp t) (.const (.string b)) 9),true,tx a,lt b))
 (hg:Ok Tryz.prog f w00 Out (dQ Tryz.prog 1000 (c.give (bl r)))):Ok Tryz.prog f w00 Out c :=
 dS _ (.tmp t) (.const (.string b)) _ _ (bl r) hc (by simp [Op.operands]) (by simp [Op.operands]) (fun ρ o β w ho hx hy=>⟨_,seq_run ho (aP hx) (aN hy) h,aX rfl⟩) hg
end
theorem dec_eq_iff {n m:Nat} {b:ByteArray} (hb:decB m=b):((decB n).toList==b.toList)=decide (n=m):=by
 rw [← hb,Go.ByteArray.toList_eq,Go.ByteArray.toList_eq,dH,dH,Bool.eq_iff_iff]
 simp only [beq_iff_eq,decide_eq_true_eq]
 constructor
 ·intro h
  have:=(cI n).1
  rw [h,(cI m).1] at this
  exact this.symm
 ·rintro rfl
  rfl
theorem dec0:decB 0=⟨#[48]⟩:=by unfold decB;rw [dA (by omega)];rfl
theorem dec1:decB 1=⟨#[49]⟩:=by unfold decB;rw [dA (by omega)];rfl
structure Wr (q:Rat):Prop where
 n:(decB q.num.natAbs).size≤600
 d:(decB q.den).size≤600
theorem lv_of_size {n k:Nat} (h:(decB n).size≤19*2^k):Lv k n:=by
 have e:aC (decB n)=Lib.decDigits n:=dH n
 have hd:=cI n
 refine lv_pow k (decB n).size h ?_
 have:=natOf_lt hd.2.1
 rw [hd.1] at this
 have hl:(decB n).size=(Lib.decDigits n).length:=by rw [← aE,e]
 rw [hl]
 exact this
theorem Wr.lf {q:Rat} (h:Wr q):Lf 5 q:=⟨lv_of_size (by have:=h.n;omega),lv_of_size (by have:=h.d;omega)⟩
theorem body_size {q:Rat} (h:Wr q):(aZ q).size<4294967281:=by
 have h1:=h.n
 have h2:=h.d
 have:(⟨#[47]⟩:ByteArray).size=1:=rfl
 unfold aZ
 split <;> simp <;> omega
theorem readF {q:Rat} (h:Wr q):FitsW Tryz.prog Gl 71 [tx (writeB q)] (.tup [.ag [nb q],.sc (.lit (.int .i64 0))]):=by
 have g1:decide ((600:Int)<((decB q.num.natAbs).size:Int))=false:=by have:=h.n;simp;omega
 have g2:decide ((600:Int)<((decB q.den).size:Int))=false:=by have:=h.d;simp;omega
 have g3:decide ((600:Int)<(((⟨#[49]⟩:ByteArray).size:Nat):Int))=false:=by decide
 have hsz:=body_size h
 have s1:=h.n
 have s2:=h.d
 by_cases hn:q.num<0
 ·have hneg:decide (q.num<0)=true:=by simpa using hn
  have hz:((decB q.num.natAbs).toList==(⟨#[48]⟩:ByteArray).toList)=false:=by rw [dec_eq_iff dec0,decide_eq_false_iff_not];omega
  by_cases hd:q.den=1
  ·skip
   refine cJ Tryz.func71 (by kernel_rfl) fun w00 hG=>?_;have hI:=aU hG
   refine aB 61 [tx (writeB q),lt ⟨#[45]⟩] (cutPrefixF hneg) (by kernel_rfl) Tryz.call61 ?_
   refine aJ hI 136 [tx (aZ q),lt ⟨#[47]⟩] (cutF (a:=decB q.num.natAbs) (b:=⟨#[]⟩) (r:=false) hsz (cut_whole hd)) (by kernel_rfl) Tryz.call136 ?_
   refine aB 137 [tx (decB q.num.natAbs)] (isPlainF _) (by kernel_rfl) Tryz.call137 ?_
   refine kseq 31 (decB q.num.natAbs) ⟨#[48]⟩ false hz (by kernel_rfl) ?_
   refine klen 53 (decB q.num.natAbs) (by kernel_rfl) ?_
   refine kgt 54 (decB q.num.natAbs).size 600 false g1 (by kernel_rfl) ?_
   refine klenL 57 ⟨#[49]⟩ (by kernel_rfl) ?_
   refine kgt 58 ((⟨#[49]⟩:ByteArray).size:Nat) 600 false g3 (by kernel_rfl) ?_
   refine aB 64 [tx (decB q.num.natAbs)] (bU (by omega)) (by kernel_rfl) Tryz.call64 ?_
   refine aB 64 [lt ⟨#[49]⟩] (naturalOneF) (by kernel_rfl) Tryz.call64 ?_
   refine aB 65 [frv true q.num.natAbs 1] ((by rw [← hd];exact numberVF hneg)) (by kernel_rfl) Tryz.call65 ?_
   exact aO Tryz.func71 (by kernel_rfl)
  ·skip
   have y0:((decB q.den).toList==(⟨#[48]⟩:ByteArray).toList)=false:=by rw [dec_eq_iff dec0,decide_eq_false_iff_not];have:=q.den_pos;omega
   have y1:((decB q.den).toList==(⟨#[49]⟩:ByteArray).toList)=false:=by rw [dec_eq_iff dec1];simpa using hd
   refine cJ Tryz.func71 (by kernel_rfl) fun w00 hG=>?_;have hI:=aU hG
   refine aB 61 [tx (writeB q),lt ⟨#[45]⟩] (cutPrefixF hneg) (by kernel_rfl) Tryz.call61 ?_
   refine aJ hI 136 [tx (aZ q),lt ⟨#[47]⟩] (cutF (a:=decB q.num.natAbs) (b:=decB q.den) (r:=true) hsz (cut_parts hd)) (by kernel_rfl) Tryz.call136 ?_
   refine aB 137 [tx (decB q.num.natAbs)] (isPlainF _) (by kernel_rfl) Tryz.call137 ?_
   refine kseq 31 (decB q.num.natAbs) ⟨#[48]⟩ false hz (by kernel_rfl) ?_
   refine aB 137 [tx (decB q.den)] (isPlainF _) (by kernel_rfl) Tryz.call137 ?_
   refine kseq 43 (decB q.den) ⟨#[48]⟩ false y0 (by kernel_rfl) ?_
   refine kseq 47 (decB q.den) ⟨#[49]⟩ false y1 (by kernel_rfl) ?_
   refine klen 53 (decB q.num.natAbs) (by kernel_rfl) ?_
   refine kgt 54 (decB q.num.natAbs).size 600 false g1 (by kernel_rfl) ?_
   refine klen 57 (decB q.den) (by kernel_rfl) ?_
   refine kgt 58 (decB q.den).size 600 false g2 (by kernel_rfl) ?_
   refine aB 64 [tx (decB q.num.natAbs)] (bU (by omega)) (by kernel_rfl) Tryz.call64 ?_
   refine aB 64 [tx (decB q.den)] (bU (by omega)) (by kernel_rfl) Tryz.call64 ?_
   refine aB 128 [nt q.num.natAbs,nt q.den] (gcdF (h.lf.1.mono (by decide)) (h.lf.2.mono (by decide)) (.inr q.den_pos)) (by kernel_rfl) Tryz.call128 ?_
   refine aB 127 [nt (Nat.gcd q.num.natAbs q.den)] (isOneF (b:=true) (by rw [decide_eq_true_eq];exact q.reduced)) (by kernel_rfl) Tryz.call127 ?_
   refine aB 65 [frv true q.num.natAbs q.den] (numberVF hneg) (by kernel_rfl) Tryz.call65 ?_
   exact aO Tryz.func71 (by kernel_rfl)
 ·have hneg:decide (q.num<0)=false:=by simpa using hn
  by_cases hd:q.den=1
  ·skip
   refine cJ Tryz.func71 (by kernel_rfl) fun w00 hG=>?_;have hI:=aU hG
   refine aB 61 [tx (writeB q),lt ⟨#[45]⟩] (cutPrefixF hneg) (by kernel_rfl) Tryz.call61 ?_
   refine aJ hI 136 [tx (aZ q),lt ⟨#[47]⟩] (cutF (a:=decB q.num.natAbs) (b:=⟨#[]⟩) (r:=false) hsz (cut_whole hd)) (by kernel_rfl) Tryz.call136 ?_
   refine aB 137 [tx (decB q.num.natAbs)] (isPlainF _) (by kernel_rfl) Tryz.call137 ?_
   refine klen 53 (decB q.num.natAbs) (by kernel_rfl) ?_
   refine kgt 54 (decB q.num.natAbs).size 600 false g1 (by kernel_rfl) ?_
   refine klenL 57 ⟨#[49]⟩ (by kernel_rfl) ?_
   refine kgt 58 ((⟨#[49]⟩:ByteArray).size:Nat) 600 false g3 (by kernel_rfl) ?_
   refine aB 64 [tx (decB q.num.natAbs)] (bU (by omega)) (by kernel_rfl) Tryz.call64 ?_
   refine aB 64 [lt ⟨#[49]⟩] (naturalOneF) (by kernel_rfl) Tryz.call64 ?_
   refine aB 65 [frv false q.num.natAbs 1] ((by rw [← hd];exact numberVF hneg)) (by kernel_rfl) Tryz.call65 ?_
   exact aO Tryz.func71 (by kernel_rfl)
  ·skip
   have y0:((decB q.den).toList==(⟨#[48]⟩:ByteArray).toList)=false:=by rw [dec_eq_iff dec0,decide_eq_false_iff_not];have:=q.den_pos;omega
   have y1:((decB q.den).toList==(⟨#[49]⟩:ByteArray).toList)=false:=by rw [dec_eq_iff dec1];simpa using hd
   refine cJ Tryz.func71 (by kernel_rfl) fun w00 hG=>?_;have hI:=aU hG
   refine aB 61 [tx (writeB q),lt ⟨#[45]⟩] (cutPrefixF hneg) (by kernel_rfl) Tryz.call61 ?_
   refine aJ hI 136 [tx (aZ q),lt ⟨#[47]⟩] (cutF (a:=decB q.num.natAbs) (b:=decB q.den) (r:=true) hsz (cut_parts hd)) (by kernel_rfl) Tryz.call136 ?_
   refine aB 137 [tx (decB q.num.natAbs)] (isPlainF _) (by kernel_rfl) Tryz.call137 ?_
   refine aB 137 [tx (decB q.den)] (isPlainF _) (by kernel_rfl) Tryz.call137 ?_
   refine kseq 43 (decB q.den) ⟨#[48]⟩ false y0 (by kernel_rfl) ?_
   refine kseq 47 (decB q.den) ⟨#[49]⟩ false y1 (by kernel_rfl) ?_
   refine klen 53 (decB q.num.natAbs) (by kernel_rfl) ?_
   refine kgt 54 (decB q.num.natAbs).size 600 false g1 (by kernel_rfl) ?_
   refine klen 57 (decB q.den) (by kernel_rfl) ?_
   refine kgt 58 (decB q.den).size 600 false g2 (by kernel_rfl) ?_
   refine aB 64 [tx (decB q.num.natAbs)] (bU (by omega)) (by kernel_rfl) Tryz.call64 ?_
   refine aB 64 [tx (decB q.den)] (bU (by omega)) (by kernel_rfl) Tryz.call64 ?_
   refine aB 128 [nt q.num.natAbs,nt q.den] (gcdF (h.lf.1.mono (by decide)) (h.lf.2.mono (by decide)) (.inr q.den_pos)) (by kernel_rfl) Tryz.call128 ?_
   refine aB 127 [nt (Nat.gcd q.num.natAbs q.den)] (isOneF (b:=true) (by rw [decide_eq_true_eq];exact q.reduced)) (by kernel_rfl) Tryz.call127 ?_
   refine aB 65 [frv false q.num.natAbs q.den] (numberVF hneg) (by kernel_rfl) Tryz.call65 ?_
   exact aO Tryz.func71 (by kernel_rfl)
abbrev z0:Seg Kn := .lit (.int .i64 0)
theorem fZ {T:TypeId}:Fits Tryz.prog 34 [.fv (.nsl 2 T [z0,z0])] (it 0):=by
 refine kgoS Tryz.func34 (by kernel_rfl) fun w00=>?_
 exact aO Tryz.func34 (by kernel_rfl)
theorem first3F {T:TypeId}:Fits Tryz.prog 34 [.fv (.nsl 3 T [z0,z0,z0])] (it 0):=by
 refine kgoS Tryz.func34 (by kernel_rfl) fun w00=>?_
 exact aO Tryz.func34 (by kernel_rfl)
theorem first4F {T:TypeId}:Fits Tryz.prog 34 [.fv (.nsl 4 T [z0,z0,z0,z0])] (it 0):=by
 refine kgoS Tryz.func34 (by kernel_rfl) fun w00=>?_
 exact aO Tryz.func34 (by kernel_rfl)
abbrev vS (a b c:Rat):AV Kn := .fv (.ag [dG (writeB a),dG (writeB b),dG (writeB c)])
abbrev okV (a b c:Rat):AV Kn := .tup [.ag [nb a,nb b,nb c],.sc z0]
abbrev Wr3 (a b c:Rat):Prop:=Wr a∧Wr b∧Wr c
theorem fV {a b c:Rat} (h:Wr3 a b c):FitsW Tryz.prog Gl 33 [vS a b c] (okV a b c):=by
 refine cJ Tryz.func33 (by kernel_rfl) fun w00 hG=>?_;have hI:=aU hG
 refine aJ hI 71 [tx (writeB a)] (readF h.1) (by kernel_rfl) Tryz.call71 ?_
 refine aJ hI 71 [tx (writeB b)] (readF h.2.1) (by kernel_rfl) Tryz.call71 ?_
 refine aJ hI 71 [tx (writeB c)] (readF h.2.2) (by kernel_rfl) Tryz.call71 ?_
 refine kcallS 34 3 3 139 [z0,z0,z0] (first3F) (by kernel_rfl) Tryz.call34 ?_
 exact aO Tryz.func33 (by kernel_rfl)
theorem writeVecF {a b c:Rat} (h:Wr3 a b c) (ha:Lf 20 a) (hb:Lf 20 b) (hc:Lf 20 c):FitsW Tryz.prog Gl 41 [vc a b c] (.tup [.ag [dG (writeB a),dG (writeB b),dG (writeB c)],.sc z0]):=by
 refine cJ Tryz.func41 (by kernel_rfl) fun w00 hG=>?_;have hI:=aU hG
 refine aJ hI 45 [num a] (writeF ha h.1.n h.1.d) (by kernel_rfl) Tryz.call45 ?_
 refine aJ hI 45 [num b] (writeF hb h.2.1.n h.2.1.d) (by kernel_rfl) Tryz.call45 ?_
 refine aJ hI 45 [num c] (writeF hc h.2.2.n h.2.2.d) (by kernel_rfl) Tryz.call45 ?_
 exact aO Tryz.func41 (by kernel_rfl)
section
variable {a b c x y z u v d e:Rat}
theorem readRV (h:Wr a) (k:Wr3 x y z):FitsW Tryz.prog Gl 81 [fnv 71,tx (writeB a),fnv 33,vS x y z] (.tup [.ag [nb a],.ag [nb x,nb y,nb z],.sc z0]):=by
 refine cJ Tryz.func81 (by kernel_rfl) fun w00 hG=>?_;have hI:=aU hG
 refine aJ hI 71 [tx (writeB a)] (readF h) (by kernel_rfl) Tryz.call71 ?_
 refine aJ hI 33 [vS x y z] (fV k) (by kernel_rfl) Tryz.call33 ?_
 refine aB 34 [.fv (.nsl 2 30 [z0,z0])] (fZ) (by kernel_rfl) Tryz.call34 ?_
 exact aO Tryz.func81 (by kernel_rfl)
theorem readVV (h:Wr3 a b c) (k:Wr3 x y z):FitsW Tryz.prog Gl 66 [fnv 33,vS a b c,fnv 33,vS x y z] (.tup [.ag [nb a,nb b,nb c],.ag [nb x,nb y,nb z],.sc z0]):=by
 refine cJ Tryz.func66 (by kernel_rfl) fun w00 hG=>?_;have hI:=aU hG
 refine aJ hI 33 [vS a b c] (fV h) (by kernel_rfl) Tryz.call33 ?_
 refine aJ hI 33 [vS x y z] (fV k) (by kernel_rfl) Tryz.call33 ?_
 refine aB 34 [.fv (.nsl 2 30 [z0,z0])] (fZ) (by kernel_rfl) Tryz.call34 ?_
 exact aO Tryz.func66 (by kernel_rfl)
theorem readVR (h:Wr3 a b c) (k:Wr d):FitsW Tryz.prog Gl 70 [fnv 33,vS a b c,fnv 71,tx (writeB d)] (.tup [.ag [nb a,nb b,nb c],.ag [nb d],.sc z0]):=by
 refine cJ Tryz.func70 (by kernel_rfl) fun w00 hG=>?_;have hI:=aU hG
 refine aJ hI 33 [vS a b c] (fV h) (by kernel_rfl) Tryz.call33 ?_
 refine aJ hI 71 [tx (writeB d)] (readF k) (by kernel_rfl) Tryz.call71 ?_
 refine aB 34 [.fv (.nsl 2 30 [z0,z0])] (fZ) (by kernel_rfl) Tryz.call34 ?_
 exact aO Tryz.func70 (by kernel_rfl)
abbrev okS (q:Rat):AV Kn := .tup [.sc (dG (writeB q)),.sc z0]
abbrev okVS (a b c:Rat):AV Kn := .tup [.ag [dG (writeB a),dG (writeB b),dG (writeB c)],.sc z0]
theorem apiAlongF (h:Wr3 a b c) (k:Wr3 x y z) (h0:(decide (a=0)&&decide (b=0)&&decide (c=0))=false) (hc:(decide (b*z-c*y=0)&&decide (c*x-a*z=0)&&decide (a*y-b*x=0))=true)
 (hs:dt a b c a b c≠0) (hr:Wr (dt x y z a b c/dt a b c a b c)):FitsW Tryz.prog Gl 20 [vS a b c,vS x y z] (okS (dt x y z a b c/dt a b c a b c)):=by
 have l1:=h.1.lf
 have l2:=h.2.1.lf
 have l3:=h.2.2.lf
 have m1:=k.1.lf
 have m2:=k.2.1.lf
 have m3:=k.2.2.lf
 refine cJ Tryz.func20 (by kernel_rfl) fun w00 hG=>?_;have hI:=aU hG
 refine aJ hI 66 [fnv 33,vS a b c,fnv 33,vS x y z] (readVV h k) (by kernel_rfl) Tryz.call66 ?_
 refine aB 67 [vc a b c] (vIsZeroF h0) (by kernel_rfl) Tryz.call67 ?_
 refine aB 68 [vc a b c,vc x y z] (crossF (l1.mono (by decide)) (l2.mono (by decide)) (l3.mono (by decide)) (m1.mono (by decide)) (m2.mono (by decide)) (m3.mono (by decide))) (by kernel_rfl) Tryz.call68 ?_
 refine aB 67 [vc (b*z-c*y) (c*x-a*z) (a*y-b*x)] (vIsZeroF hc) (by kernel_rfl) Tryz.call67 ?_
 refine aB 35 [vc x y z,vc a b c] (dotF (m1.mono (by decide)) (m2.mono (by decide)) (m3.mono (by decide)) (l1.mono (by decide)) (l2.mono (by decide)) (l3.mono (by decide))) (by kernel_rfl) Tryz.call35 ?_
 refine aB 44 [vc a b c] (squareF (l1.mono (by decide)) (l2.mono (by decide)) (l3.mono (by decide))) (by kernel_rfl) Tryz.call44 ?_
 refine aB 40 [num (dt x y z a b c),num (dt a b c a b c)] (overF (lf_dt (n:=38) (m1.mono (by decide)) (m2.mono (by decide)) (m3.mono (by decide)) (l1.mono (by decide)) (l2.mono (by decide)) (l3.mono (by decide)) (by decide)) (lf_dt (n:=38) (l1.mono (by decide)) (l2.mono (by decide)) (l3.mono (by decide)) (l1.mono (by decide)) (l2.mono (by decide)) (l3.mono (by decide)) (by decide)) hs) (by kernel_rfl) Tryz.call40 ?_
 refine aJ hI 45 [num (dt x y z a b c/dt a b c a b c)] (writeF (hr.lf.mono (by decide)) hr.n hr.d) (by kernel_rfl) Tryz.call45 ?_
 exact aO Tryz.func20 (by kernel_rfl)
end
def wn (q:Rat) (n:Nat):Nat:=if q=0 then n else Nat.gcd q.num.natAbs n
def wd (q:Rat) (d:Nat):Nat:=if q=0 then d else d*(q.den/Nat.gcd q.den d)
def bW (a b c:Rat):Rat:=mkRat (sg false (wd c (wd b (wd a 1)))) (wn c (wn b (wn a 0)))
theorem wn_pos {q:Rat} {n:Nat} (h:q≠0):0<wn q n:=by
 unfold wn
 rw [if_neg h]
 have:0<q.num.natAbs:=by
  have:q.num≠0:=fun e=>h (Rat.num_eq_zero.1 e)
  omega
 exact Nat.gcd_pos_of_pos_left _ this
theorem wn_pos' {q:Rat} {n:Nat} (h:0<n):0<wn q n:=by
 unfold wn
 split
 ·exact h
 ·exact Nat.gcd_pos_of_pos_right _ h
theorem dJ {q:Rat} {n k:Nat} (hq:Lf k q) (hn:Lv k n):Lv k (wn q n):=by
 unfold wn
 split
 ·exact hn
 ·rename_i h
  have:q.num≠0:=fun e=>h (Rat.num_eq_zero.1 e)
  exact hq.1.le (Nat.gcd_le_left _ (by omega))
theorem lv_wd {q:Rat} {d k:Nat} (hq:Lf k q) (hd:Lv k d):Lv (k+1) (wd q d):=by
 unfold wd
 split
 ·exact hd.mono (by omega)
 ·exact hd.mul (hq.2.le (Nat.div_le_self _ _))
theorem nil_nt {β:List Nat} {v:Value} {w:World} (h:(AV.fv (.sc (.lit (.slice none 0 0))):AV Kn).holds β v w):(nt 0).holds β v w:=by
 rw [aN h]
 exact dO.2 (Nt.zero w)
theorem num_ne {q:Rat} (h:¬ q=0):0<q.num.natAbs:=by
 have:q.num≠0:=fun e=>h (Rat.num_eq_zero.1 e)
 omega
section
variable {a b c:Rat}
theorem whole_111 (la:Lf 30 a) (lb:Lf 30 b) (lc:Lf 30 c) (ha:¬ a=0) (hb:¬ b=0) (hc:¬ c=0):Fits Tryz.prog 200 [vc a b c] (num (bW a b c)):=by
 have e:bW a b c=mkRat (sg false ((((1)*(a.den/Nat.gcd a.den (1)))*(b.den/Nat.gcd b.den ((1)*(a.den/Nat.gcd a.den (1)))))*(c.den/Nat.gcd c.den (((1)*(a.den/Nat.gcd a.den (1)))*(b.den/Nat.gcd b.den ((1)*(a.den/Nat.gcd a.den (1)))))))) (Nat.gcd c.num.natAbs (Nat.gcd b.num.natAbs (Nat.gcd a.num.natAbs (0)))):=by
  unfold bW wn wd
  simp only [if_neg ha,if_neg hb,if_neg hc]
 have lN:Lv 30 (Nat.gcd c.num.natAbs (Nat.gcd b.num.natAbs (Nat.gcd a.num.natAbs (0)))):=by
  have:=dJ (k:=30) lc (dJ lb (dJ la (n:=0) (Lv.one _ (by rw [aH];omega))))
  unfold wn at this
  simpa only [if_neg ha,if_neg hb,if_neg hc] using this
 have lD0:Lv 31 ((1)*(a.den/Nat.gcd a.den (1))):=(show Lv 30 (1) from (Lv.one _ (by rw [aH];omega))).mul (la.2.mono (by omega) |>.le (Nat.div_le_self _ _))
 have lD1:Lv 32 (((1)*(a.den/Nat.gcd a.den (1)))*(b.den/Nat.gcd b.den ((1)*(a.den/Nat.gcd a.den (1))))):=(show Lv 31 ((1)*(a.den/Nat.gcd a.den (1))) from lD0.mono (by omega)).mul (lb.2.mono (by omega) |>.le (Nat.div_le_self _ _))
 have lD2:Lv 33 ((((1)*(a.den/Nat.gcd a.den (1)))*(b.den/Nat.gcd b.den ((1)*(a.den/Nat.gcd a.den (1)))))*(c.den/Nat.gcd c.den (((1)*(a.den/Nat.gcd a.den (1)))*(b.den/Nat.gcd b.den ((1)*(a.den/Nat.gcd a.den (1))))))):=(show Lv 32 (((1)*(a.den/Nat.gcd a.den (1)))*(b.den/Nat.gcd b.den ((1)*(a.den/Nat.gcd a.den (1))))) from lD1.mono (by omega)).mul (lc.2.mono (by omega) |>.le (Nat.div_le_self _ _))
 have hN:0<Nat.gcd c.num.natAbs (Nat.gcd b.num.natAbs (Nat.gcd a.num.natAbs (0))):=by
  have:=(show 0<wn c (wn b (wn a 0)) from wn_pos hc)
  unfold wn at this
  simpa only [if_neg ha,if_neg hb,if_neg hc] using this
 rw [e]
 refine fX Tryz.func200 (by kernel_rfl) fun w00=>?_
 refine aB 104 [.fv (.sc (.lit (.int .u64 ((1:Nat):Int))))] (gF (by rw [aH];omega)) (by kernel_rfl) Tryz.call104 ?_
 refine aB 36 [num a] (bS (b:=false) (by simpa using ha)) (by kernel_rfl) Tryz.call36 ?_
 refine aB 145 [num a] (cG) (by kernel_rfl) Tryz.call145 ?_
 refine aB 128 [nt a.num.natAbs,.fv (.sc (.lit (.slice none 0 0)))] (Fits.args (gcdF (b:=0) (la.1.mono (by omega)) (Lv.one _ (by rw [aH];omega)) (.inl (num_ne ha))) (fun β vs w ⟨v,r,e,k1,⟨v2,r2,e2,k2,k3⟩⟩=>⟨v,r,e,k1,v2,r2,e2,nil_nt k2,k3⟩)) (by kernel_rfl) Tryz.call128 ?_
 refine aB 128 [nt a.den,nt (1)] (gcdF (la.2.mono (by omega)) (Lv.one _ (by rw [aH];omega)) (.inl a.den_pos)) (by kernel_rfl) Tryz.call128 ?_
 refine aB 129 [nt a.den,nt (Nat.gcd a.den (1))] (eX (la.2.mono (by omega)) (Nat.gcd_pos_of_pos_left _ a.den_pos)) (by kernel_rfl) Tryz.call129 ?_
 refine aB 131 [nt (1),nt (a.den/Nat.gcd a.den (1))] (fY (Lv.one _ (by rw [aH];omega)) ((la.2.mono (by omega)).le (Nat.div_le_self _ _))) (by kernel_rfl) Tryz.call131 ?_
 refine aB 36 [num b] (bS (b:=false) (by simpa using hb)) (by kernel_rfl) Tryz.call36 ?_
 refine aB 145 [num b] (cG) (by kernel_rfl) Tryz.call145 ?_
 refine aB 128 [nt b.num.natAbs,nt (Nat.gcd a.num.natAbs (0))] (gcdF (lb.1.mono (by omega)) (Lv.mono (k:=30) (by have:=dJ (k:=30) la (n:=0) (Lv.one _ (by rw [aH];omega));unfold wn at this;simpa only [if_neg ha] using this) (by omega)) (.inl (num_ne hb))) (by kernel_rfl) Tryz.call128 ?_
 refine aB 128 [nt b.den,nt ((1)*(a.den/Nat.gcd a.den (1)))] (gcdF (lb.2.mono (by omega)) (lD0.mono (by omega)) (.inl b.den_pos)) (by kernel_rfl) Tryz.call128 ?_
 refine aB 129 [nt b.den,nt (Nat.gcd b.den ((1)*(a.den/Nat.gcd a.den (1))))] (eX (lb.2.mono (by omega)) (Nat.gcd_pos_of_pos_left _ b.den_pos)) (by kernel_rfl) Tryz.call129 ?_
 refine aB 131 [nt ((1)*(a.den/Nat.gcd a.den (1))),nt (b.den/Nat.gcd b.den ((1)*(a.den/Nat.gcd a.den (1))))] (fY (lD0.mono (by omega)) ((lb.2.mono (by omega)).le (Nat.div_le_self _ _))) (by kernel_rfl) Tryz.call131 ?_
 refine aB 36 [num c] (bS (b:=false) (by simpa using hc)) (by kernel_rfl) Tryz.call36 ?_
 refine aB 145 [num c] (cG) (by kernel_rfl) Tryz.call145 ?_
 refine aB 128 [nt c.num.natAbs,nt (Nat.gcd b.num.natAbs (Nat.gcd a.num.natAbs (0)))] (gcdF (lc.1.mono (by omega)) (Lv.mono (k:=30) (by have:=dJ (k:=30) lb (dJ la (n:=0) (Lv.one _ (by rw [aH];omega)));unfold wn at this;simpa only [if_neg ha,if_neg hb] using this) (by omega)) (.inl (num_ne hc))) (by kernel_rfl) Tryz.call128 ?_
 refine aB 128 [nt c.den,nt (((1)*(a.den/Nat.gcd a.den (1)))*(b.den/Nat.gcd b.den ((1)*(a.den/Nat.gcd a.den (1)))))] (gcdF (lc.2.mono (by omega)) (lD1.mono (by omega)) (.inl c.den_pos)) (by kernel_rfl) Tryz.call128 ?_
 refine aB 129 [nt c.den,nt (Nat.gcd c.den (((1)*(a.den/Nat.gcd a.den (1)))*(b.den/Nat.gcd b.den ((1)*(a.den/Nat.gcd a.den (1))))))] (eX (lc.2.mono (by omega)) (Nat.gcd_pos_of_pos_left _ c.den_pos)) (by kernel_rfl) Tryz.call129 ?_
 refine aB 131 [nt (((1)*(a.den/Nat.gcd a.den (1)))*(b.den/Nat.gcd b.den ((1)*(a.den/Nat.gcd a.den (1))))),nt (c.den/Nat.gcd c.den (((1)*(a.den/Nat.gcd a.den (1)))*(b.den/Nat.gcd b.den ((1)*(a.den/Nat.gcd a.den (1))))))] (fY (lD1.mono (by omega)) ((lc.2.mono (by omega)).le (Nat.div_le_self _ _))) (by kernel_rfl) Tryz.call131 ?_
 refine aB 63 [bl false,nt ((((1)*(a.den/Nat.gcd a.den (1)))*(b.den/Nat.gcd b.den ((1)*(a.den/Nat.gcd a.den (1)))))*(c.den/Nat.gcd c.den (((1)*(a.den/Nat.gcd a.den (1)))*(b.den/Nat.gcd b.den ((1)*(a.den/Nat.gcd a.den (1))))))),nt (Nat.gcd c.num.natAbs (Nat.gcd b.num.natAbs (Nat.gcd a.num.natAbs (0))))] (ratioF (lD2.mono (by omega)) (lN.mono (by omega)) hN) (by kernel_rfl) Tryz.call63 ?_
 refine aB 65 [fra (mkRat (sg false ((((1)*(a.den/Nat.gcd a.den (1)))*(b.den/Nat.gcd b.den ((1)*(a.den/Nat.gcd a.den (1)))))*(c.den/Nat.gcd c.den (((1)*(a.den/Nat.gcd a.den (1)))*(b.den/Nat.gcd b.den ((1)*(a.den/Nat.gcd a.den (1)))))))) (Nat.gcd c.num.natAbs (Nat.gcd b.num.natAbs (Nat.gcd a.num.natAbs (0)))))] (numberF) (by kernel_rfl) Tryz.call65 ?_
 exact aO Tryz.func200 (by kernel_rfl)
theorem whole_110 (la:Lf 30 a) (lb:Lf 30 b) (lc:Lf 30 c) (ha:¬ a=0) (hb:¬ b=0) (hc:c=0):Fits Tryz.prog 200 [vc a b c] (num (bW a b c)):=by
 have e:bW a b c=mkRat (sg false (((1)*(a.den/Nat.gcd a.den (1)))*(b.den/Nat.gcd b.den ((1)*(a.den/Nat.gcd a.den (1)))))) (Nat.gcd b.num.natAbs (Nat.gcd a.num.natAbs (0))):=by
  unfold bW wn wd
  simp only [if_neg ha,if_neg hb,if_pos hc]
 have lN:Lv 30 (Nat.gcd b.num.natAbs (Nat.gcd a.num.natAbs (0))):=by
  have:=dJ (k:=30) lc (dJ lb (dJ la (n:=0) (Lv.one _ (by rw [aH];omega))))
  unfold wn at this
  simpa only [if_neg ha,if_neg hb,if_pos hc] using this
 have lD0:Lv 31 ((1)*(a.den/Nat.gcd a.den (1))):=(show Lv 30 (1) from (Lv.one _ (by rw [aH];omega))).mul (la.2.mono (by omega) |>.le (Nat.div_le_self _ _))
 have lD1:Lv 32 (((1)*(a.den/Nat.gcd a.den (1)))*(b.den/Nat.gcd b.den ((1)*(a.den/Nat.gcd a.den (1))))):=(show Lv 31 ((1)*(a.den/Nat.gcd a.den (1))) from lD0.mono (by omega)).mul (lb.2.mono (by omega) |>.le (Nat.div_le_self _ _))
 have hN:0<Nat.gcd b.num.natAbs (Nat.gcd a.num.natAbs (0)):=by
  have:=(show 0<wn c (wn b (wn a 0)) from wn_pos' (wn_pos hb))
  unfold wn at this
  simpa only [if_neg ha,if_neg hb,if_pos hc] using this
 rw [e]
 refine fX Tryz.func200 (by kernel_rfl) fun w00=>?_
 refine aB 104 [.fv (.sc (.lit (.int .u64 ((1:Nat):Int))))] (gF (by rw [aH];omega)) (by kernel_rfl) Tryz.call104 ?_
 refine aB 36 [num a] (bS (b:=false) (by simpa using ha)) (by kernel_rfl) Tryz.call36 ?_
 refine aB 145 [num a] (cG) (by kernel_rfl) Tryz.call145 ?_
 refine aB 128 [nt a.num.natAbs,.fv (.sc (.lit (.slice none 0 0)))] (Fits.args (gcdF (b:=0) (la.1.mono (by omega)) (Lv.one _ (by rw [aH];omega)) (.inl (num_ne ha))) (fun β vs w ⟨v,r,e,k1,⟨v2,r2,e2,k2,k3⟩⟩=>⟨v,r,e,k1,v2,r2,e2,nil_nt k2,k3⟩)) (by kernel_rfl) Tryz.call128 ?_
 refine aB 128 [nt a.den,nt (1)] (gcdF (la.2.mono (by omega)) (Lv.one _ (by rw [aH];omega)) (.inl a.den_pos)) (by kernel_rfl) Tryz.call128 ?_
 refine aB 129 [nt a.den,nt (Nat.gcd a.den (1))] (eX (la.2.mono (by omega)) (Nat.gcd_pos_of_pos_left _ a.den_pos)) (by kernel_rfl) Tryz.call129 ?_
 refine aB 131 [nt (1),nt (a.den/Nat.gcd a.den (1))] (fY (Lv.one _ (by rw [aH];omega)) ((la.2.mono (by omega)).le (Nat.div_le_self _ _))) (by kernel_rfl) Tryz.call131 ?_
 refine aB 36 [num b] (bS (b:=false) (by simpa using hb)) (by kernel_rfl) Tryz.call36 ?_
 refine aB 145 [num b] (cG) (by kernel_rfl) Tryz.call145 ?_
 refine aB 128 [nt b.num.natAbs,nt (Nat.gcd a.num.natAbs (0))] (gcdF (lb.1.mono (by omega)) (Lv.mono (k:=30) (by have:=dJ (k:=30) la (n:=0) (Lv.one _ (by rw [aH];omega));unfold wn at this;simpa only [if_neg ha] using this) (by omega)) (.inl (num_ne hb))) (by kernel_rfl) Tryz.call128 ?_
 refine aB 128 [nt b.den,nt ((1)*(a.den/Nat.gcd a.den (1)))] (gcdF (lb.2.mono (by omega)) (lD0.mono (by omega)) (.inl b.den_pos)) (by kernel_rfl) Tryz.call128 ?_
 refine aB 129 [nt b.den,nt (Nat.gcd b.den ((1)*(a.den/Nat.gcd a.den (1))))] (eX (lb.2.mono (by omega)) (Nat.gcd_pos_of_pos_left _ b.den_pos)) (by kernel_rfl) Tryz.call129 ?_
 refine aB 131 [nt ((1)*(a.den/Nat.gcd a.den (1))),nt (b.den/Nat.gcd b.den ((1)*(a.den/Nat.gcd a.den (1))))] (fY (lD0.mono (by omega)) ((lb.2.mono (by omega)).le (Nat.div_le_self _ _))) (by kernel_rfl) Tryz.call131 ?_
 refine aB 36 [num c] (bS (b:=true) (by simpa using hc)) (by kernel_rfl) Tryz.call36 ?_
 refine aB 63 [bl false,nt (((1)*(a.den/Nat.gcd a.den (1)))*(b.den/Nat.gcd b.den ((1)*(a.den/Nat.gcd a.den (1))))),nt (Nat.gcd b.num.natAbs (Nat.gcd a.num.natAbs (0)))] (ratioF (lD1.mono (by omega)) (lN.mono (by omega)) hN) (by kernel_rfl) Tryz.call63 ?_
 refine aB 65 [fra (mkRat (sg false (((1)*(a.den/Nat.gcd a.den (1)))*(b.den/Nat.gcd b.den ((1)*(a.den/Nat.gcd a.den (1)))))) (Nat.gcd b.num.natAbs (Nat.gcd a.num.natAbs (0))))] (numberF) (by kernel_rfl) Tryz.call65 ?_
 exact aO Tryz.func200 (by kernel_rfl)
theorem whole_101 (la:Lf 30 a) (lb:Lf 30 b) (lc:Lf 30 c) (ha:¬ a=0) (hb:b=0) (hc:¬ c=0):Fits Tryz.prog 200 [vc a b c] (num (bW a b c)):=by
 have e:bW a b c=mkRat (sg false (((1)*(a.den/Nat.gcd a.den (1)))*(c.den/Nat.gcd c.den ((1)*(a.den/Nat.gcd a.den (1)))))) (Nat.gcd c.num.natAbs (Nat.gcd a.num.natAbs (0))):=by
  unfold bW wn wd
  simp only [if_neg ha,if_pos hb,if_neg hc]
 have lN:Lv 30 (Nat.gcd c.num.natAbs (Nat.gcd a.num.natAbs (0))):=by
  have:=dJ (k:=30) lc (dJ lb (dJ la (n:=0) (Lv.one _ (by rw [aH];omega))))
  unfold wn at this
  simpa only [if_neg ha,if_pos hb,if_neg hc] using this
 have lD0:Lv 31 ((1)*(a.den/Nat.gcd a.den (1))):=(show Lv 30 (1) from (Lv.one _ (by rw [aH];omega))).mul (la.2.mono (by omega) |>.le (Nat.div_le_self _ _))
 have lD2:Lv 33 (((1)*(a.den/Nat.gcd a.den (1)))*(c.den/Nat.gcd c.den ((1)*(a.den/Nat.gcd a.den (1))))):=(show Lv 32 ((1)*(a.den/Nat.gcd a.den (1))) from lD0.mono (by omega)).mul (lc.2.mono (by omega) |>.le (Nat.div_le_self _ _))
 have hN:0<Nat.gcd c.num.natAbs (Nat.gcd a.num.natAbs (0)):=by
  have:=(show 0<wn c (wn b (wn a 0)) from wn_pos hc)
  unfold wn at this
  simpa only [if_neg ha,if_pos hb,if_neg hc] using this
 rw [e]
 refine fX Tryz.func200 (by kernel_rfl) fun w00=>?_
 refine aB 104 [.fv (.sc (.lit (.int .u64 ((1:Nat):Int))))] (gF (by rw [aH];omega)) (by kernel_rfl) Tryz.call104 ?_
 refine aB 36 [num a] (bS (b:=false) (by simpa using ha)) (by kernel_rfl) Tryz.call36 ?_
 refine aB 145 [num a] (cG) (by kernel_rfl) Tryz.call145 ?_
 refine aB 128 [nt a.num.natAbs,.fv (.sc (.lit (.slice none 0 0)))] (Fits.args (gcdF (b:=0) (la.1.mono (by omega)) (Lv.one _ (by rw [aH];omega)) (.inl (num_ne ha))) (fun β vs w ⟨v,r,e,k1,⟨v2,r2,e2,k2,k3⟩⟩=>⟨v,r,e,k1,v2,r2,e2,nil_nt k2,k3⟩)) (by kernel_rfl) Tryz.call128 ?_
 refine aB 128 [nt a.den,nt (1)] (gcdF (la.2.mono (by omega)) (Lv.one _ (by rw [aH];omega)) (.inl a.den_pos)) (by kernel_rfl) Tryz.call128 ?_
 refine aB 129 [nt a.den,nt (Nat.gcd a.den (1))] (eX (la.2.mono (by omega)) (Nat.gcd_pos_of_pos_left _ a.den_pos)) (by kernel_rfl) Tryz.call129 ?_
 refine aB 131 [nt (1),nt (a.den/Nat.gcd a.den (1))] (fY (Lv.one _ (by rw [aH];omega)) ((la.2.mono (by omega)).le (Nat.div_le_self _ _))) (by kernel_rfl) Tryz.call131 ?_
 refine aB 36 [num b] (bS (b:=true) (by simpa using hb)) (by kernel_rfl) Tryz.call36 ?_
 refine aB 36 [num c] (bS (b:=false) (by simpa using hc)) (by kernel_rfl) Tryz.call36 ?_
 refine aB 145 [num c] (cG) (by kernel_rfl) Tryz.call145 ?_
 refine aB 128 [nt c.num.natAbs,nt (Nat.gcd a.num.natAbs (0))] (gcdF (lc.1.mono (by omega)) (Lv.mono (k:=30) (by have:=dJ (k:=30) lb (dJ la (n:=0) (Lv.one _ (by rw [aH];omega)));unfold wn at this;simpa only [if_neg ha,if_pos hb] using this) (by omega)) (.inl (num_ne hc))) (by kernel_rfl) Tryz.call128 ?_
 refine aB 128 [nt c.den,nt ((1)*(a.den/Nat.gcd a.den (1)))] (gcdF (lc.2.mono (by omega)) (lD0.mono (by omega)) (.inl c.den_pos)) (by kernel_rfl) Tryz.call128 ?_
 refine aB 129 [nt c.den,nt (Nat.gcd c.den ((1)*(a.den/Nat.gcd a.den (1))))] (eX (lc.2.mono (by omega)) (Nat.gcd_pos_of_pos_left _ c.den_pos)) (by kernel_rfl) Tryz.call129 ?_
 refine aB 131 [nt ((1)*(a.den/Nat.gcd a.den (1))),nt (c.den/Nat.gcd c.den ((1)*(a.den/Nat.gcd a.den (1))))] (fY (lD0.mono (by omega)) ((lc.2.mono (by omega)).le (Nat.div_le_self _ _))) (by kernel_rfl) Tryz.call131 ?_
 refine aB 63 [bl false,nt (((1)*(a.den/Nat.gcd a.den (1)))*(c.den/Nat.gcd c.den ((1)*(a.den/Nat.gcd a.den (1))))),nt (Nat.gcd c.num.natAbs (Nat.gcd a.num.natAbs (0)))] (ratioF (lD2.mono (by omega)) (lN.mono (by omega)) hN) (by kernel_rfl) Tryz.call63 ?_
 refine aB 65 [fra (mkRat (sg false (((1)*(a.den/Nat.gcd a.den (1)))*(c.den/Nat.gcd c.den ((1)*(a.den/Nat.gcd a.den (1)))))) (Nat.gcd c.num.natAbs (Nat.gcd a.num.natAbs (0))))] (numberF) (by kernel_rfl) Tryz.call65 ?_
 exact aO Tryz.func200 (by kernel_rfl)
theorem whole_100 (la:Lf 30 a) (lb:Lf 30 b) (lc:Lf 30 c) (ha:¬ a=0) (hb:b=0) (hc:c=0):Fits Tryz.prog 200 [vc a b c] (num (bW a b c)):=by
 have e:bW a b c=mkRat (sg false ((1)*(a.den/Nat.gcd a.den (1)))) (Nat.gcd a.num.natAbs (0)):=by
  unfold bW wn wd
  simp only [if_neg ha,if_pos hb,if_pos hc]
 have lN:Lv 30 (Nat.gcd a.num.natAbs (0)):=by
  have:=dJ (k:=30) lc (dJ lb (dJ la (n:=0) (Lv.one _ (by rw [aH];omega))))
  unfold wn at this
  simpa only [if_neg ha,if_pos hb,if_pos hc] using this
 have lD0:Lv 31 ((1)*(a.den/Nat.gcd a.den (1))):=(show Lv 30 (1) from (Lv.one _ (by rw [aH];omega))).mul (la.2.mono (by omega) |>.le (Nat.div_le_self _ _))
 have hN:0<Nat.gcd a.num.natAbs (0):=by
  have:=(show 0<wn c (wn b (wn a 0)) from wn_pos' (wn_pos' (wn_pos ha)))
  unfold wn at this
  simpa only [if_neg ha,if_pos hb,if_pos hc] using this
 rw [e]
 refine fX Tryz.func200 (by kernel_rfl) fun w00=>?_
 refine aB 104 [.fv (.sc (.lit (.int .u64 ((1:Nat):Int))))] (gF (by rw [aH];omega)) (by kernel_rfl) Tryz.call104 ?_
 refine aB 36 [num a] (bS (b:=false) (by simpa using ha)) (by kernel_rfl) Tryz.call36 ?_
 refine aB 145 [num a] (cG) (by kernel_rfl) Tryz.call145 ?_
 refine aB 128 [nt a.num.natAbs,.fv (.sc (.lit (.slice none 0 0)))] (Fits.args (gcdF (b:=0) (la.1.mono (by omega)) (Lv.one _ (by rw [aH];omega)) (.inl (num_ne ha))) (fun β vs w ⟨v,r,e,k1,⟨v2,r2,e2,k2,k3⟩⟩=>⟨v,r,e,k1,v2,r2,e2,nil_nt k2,k3⟩)) (by kernel_rfl) Tryz.call128 ?_
 refine aB 128 [nt a.den,nt (1)] (gcdF (la.2.mono (by omega)) (Lv.one _ (by rw [aH];omega)) (.inl a.den_pos)) (by kernel_rfl) Tryz.call128 ?_
 refine aB 129 [nt a.den,nt (Nat.gcd a.den (1))] (eX (la.2.mono (by omega)) (Nat.gcd_pos_of_pos_left _ a.den_pos)) (by kernel_rfl) Tryz.call129 ?_
 refine aB 131 [nt (1),nt (a.den/Nat.gcd a.den (1))] (fY (Lv.one _ (by rw [aH];omega)) ((la.2.mono (by omega)).le (Nat.div_le_self _ _))) (by kernel_rfl) Tryz.call131 ?_
 refine aB 36 [num b] (bS (b:=true) (by simpa using hb)) (by kernel_rfl) Tryz.call36 ?_
 refine aB 36 [num c] (bS (b:=true) (by simpa using hc)) (by kernel_rfl) Tryz.call36 ?_
 refine aB 63 [bl false,nt ((1)*(a.den/Nat.gcd a.den (1))),nt (Nat.gcd a.num.natAbs (0))] (ratioF (lD0.mono (by omega)) (lN.mono (by omega)) hN) (by kernel_rfl) Tryz.call63 ?_
 refine aB 65 [fra (mkRat (sg false ((1)*(a.den/Nat.gcd a.den (1)))) (Nat.gcd a.num.natAbs (0)))] (numberF) (by kernel_rfl) Tryz.call65 ?_
 exact aO Tryz.func200 (by kernel_rfl)
theorem whole_011 (la:Lf 30 a) (lb:Lf 30 b) (lc:Lf 30 c) (ha:a=0) (hb:¬ b=0) (hc:¬ c=0):Fits Tryz.prog 200 [vc a b c] (num (bW a b c)):=by
 have e:bW a b c=mkRat (sg false (((1)*(b.den/Nat.gcd b.den (1)))*(c.den/Nat.gcd c.den ((1)*(b.den/Nat.gcd b.den (1)))))) (Nat.gcd c.num.natAbs (Nat.gcd b.num.natAbs (0))):=by
  unfold bW wn wd
  simp only [if_pos ha,if_neg hb,if_neg hc]
 have lN:Lv 30 (Nat.gcd c.num.natAbs (Nat.gcd b.num.natAbs (0))):=by
  have:=dJ (k:=30) lc (dJ lb (dJ la (n:=0) (Lv.one _ (by rw [aH];omega))))
  unfold wn at this
  simpa only [if_pos ha,if_neg hb,if_neg hc] using this
 have lD1:Lv 32 ((1)*(b.den/Nat.gcd b.den (1))):=(show Lv 31 (1) from (Lv.one _ (by rw [aH];omega))).mul (lb.2.mono (by omega) |>.le (Nat.div_le_self _ _))
 have lD2:Lv 33 (((1)*(b.den/Nat.gcd b.den (1)))*(c.den/Nat.gcd c.den ((1)*(b.den/Nat.gcd b.den (1))))):=(show Lv 32 ((1)*(b.den/Nat.gcd b.den (1))) from lD1.mono (by omega)).mul (lc.2.mono (by omega) |>.le (Nat.div_le_self _ _))
 have hN:0<Nat.gcd c.num.natAbs (Nat.gcd b.num.natAbs (0)):=by
  have:=(show 0<wn c (wn b (wn a 0)) from wn_pos hc)
  unfold wn at this
  simpa only [if_pos ha,if_neg hb,if_neg hc] using this
 rw [e]
 refine fX Tryz.func200 (by kernel_rfl) fun w00=>?_
 refine aB 104 [.fv (.sc (.lit (.int .u64 ((1:Nat):Int))))] (gF (by rw [aH];omega)) (by kernel_rfl) Tryz.call104 ?_
 refine aB 36 [num a] (bS (b:=true) (by simpa using ha)) (by kernel_rfl) Tryz.call36 ?_
 refine aB 36 [num b] (bS (b:=false) (by simpa using hb)) (by kernel_rfl) Tryz.call36 ?_
 refine aB 145 [num b] (cG) (by kernel_rfl) Tryz.call145 ?_
 refine aB 128 [nt b.num.natAbs,.fv (.sc (.lit (.slice none 0 0)))] (Fits.args (gcdF (b:=0) (lb.1.mono (by omega)) (Lv.one _ (by rw [aH];omega)) (.inl (num_ne hb))) (fun β vs w ⟨v,r,e,k1,⟨v2,r2,e2,k2,k3⟩⟩=>⟨v,r,e,k1,v2,r2,e2,nil_nt k2,k3⟩)) (by kernel_rfl) Tryz.call128 ?_
 refine aB 128 [nt b.den,nt (1)] (gcdF (lb.2.mono (by omega)) (Lv.one _ (by rw [aH];omega)) (.inl b.den_pos)) (by kernel_rfl) Tryz.call128 ?_
 refine aB 129 [nt b.den,nt (Nat.gcd b.den (1))] (eX (lb.2.mono (by omega)) (Nat.gcd_pos_of_pos_left _ b.den_pos)) (by kernel_rfl) Tryz.call129 ?_
 refine aB 131 [nt (1),nt (b.den/Nat.gcd b.den (1))] (fY (Lv.one _ (by rw [aH];omega)) ((lb.2.mono (by omega)).le (Nat.div_le_self _ _))) (by kernel_rfl) Tryz.call131 ?_
 refine aB 36 [num c] (bS (b:=false) (by simpa using hc)) (by kernel_rfl) Tryz.call36 ?_
 refine aB 145 [num c] (cG) (by kernel_rfl) Tryz.call145 ?_
 refine aB 128 [nt c.num.natAbs,nt (Nat.gcd b.num.natAbs (0))] (gcdF (lc.1.mono (by omega)) (Lv.mono (k:=30) (by have:=dJ (k:=30) lb (dJ la (n:=0) (Lv.one _ (by rw [aH];omega)));unfold wn at this;simpa only [if_pos ha,if_neg hb] using this) (by omega)) (.inl (num_ne hc))) (by kernel_rfl) Tryz.call128 ?_
 refine aB 128 [nt c.den,nt ((1)*(b.den/Nat.gcd b.den (1)))] (gcdF (lc.2.mono (by omega)) (lD1.mono (by omega)) (.inl c.den_pos)) (by kernel_rfl) Tryz.call128 ?_
 refine aB 129 [nt c.den,nt (Nat.gcd c.den ((1)*(b.den/Nat.gcd b.den (1))))] (eX (lc.2.mono (by omega)) (Nat.gcd_pos_of_pos_left _ c.den_pos)) (by kernel_rfl) Tryz.call129 ?_
 refine aB 131 [nt ((1)*(b.den/Nat.gcd b.den (1))),nt (c.den/Nat.gcd c.den ((1)*(b.den/Nat.gcd b.den (1))))] (fY (lD1.mono (by omega)) ((lc.2.mono (by omega)).le (Nat.div_le_self _ _))) (by kernel_rfl) Tryz.call131 ?_
 refine aB 63 [bl false,nt (((1)*(b.den/Nat.gcd b.den (1)))*(c.den/Nat.gcd c.den ((1)*(b.den/Nat.gcd b.den (1))))),nt (Nat.gcd c.num.natAbs (Nat.gcd b.num.natAbs (0)))] (ratioF (lD2.mono (by omega)) (lN.mono (by omega)) hN) (by kernel_rfl) Tryz.call63 ?_
 refine aB 65 [fra (mkRat (sg false (((1)*(b.den/Nat.gcd b.den (1)))*(c.den/Nat.gcd c.den ((1)*(b.den/Nat.gcd b.den (1)))))) (Nat.gcd c.num.natAbs (Nat.gcd b.num.natAbs (0))))] (numberF) (by kernel_rfl) Tryz.call65 ?_
 exact aO Tryz.func200 (by kernel_rfl)
theorem whole_010 (la:Lf 30 a) (lb:Lf 30 b) (lc:Lf 30 c) (ha:a=0) (hb:¬ b=0) (hc:c=0):Fits Tryz.prog 200 [vc a b c] (num (bW a b c)):=by
 have e:bW a b c=mkRat (sg false ((1)*(b.den/Nat.gcd b.den (1)))) (Nat.gcd b.num.natAbs (0)):=by
  unfold bW wn wd
  simp only [if_pos ha,if_neg hb,if_pos hc]
 have lN:Lv 30 (Nat.gcd b.num.natAbs (0)):=by
  have:=dJ (k:=30) lc (dJ lb (dJ la (n:=0) (Lv.one _ (by rw [aH];omega))))
  unfold wn at this
  simpa only [if_pos ha,if_neg hb,if_pos hc] using this
 have lD1:Lv 32 ((1)*(b.den/Nat.gcd b.den (1))):=(show Lv 31 (1) from (Lv.one _ (by rw [aH];omega))).mul (lb.2.mono (by omega) |>.le (Nat.div_le_self _ _))
 have hN:0<Nat.gcd b.num.natAbs (0):=by
  have:=(show 0<wn c (wn b (wn a 0)) from wn_pos' (wn_pos hb))
  unfold wn at this
  simpa only [if_pos ha,if_neg hb,if_pos hc] using this
 rw [e]
 refine fX Tryz.func200 (by kernel_rfl) fun w00=>?_
 refine aB 104 [.fv (.sc (.lit (.int .u64 ((1:Nat):Int))))] (gF (by rw [aH];omega)) (by kernel_rfl) Tryz.call104 ?_
 refine aB 36 [num a] (bS (b:=true) (by simpa using ha)) (by kernel_rfl) Tryz.call36 ?_
 refine aB 36 [num b] (bS (b:=false) (by simpa using hb)) (by kernel_rfl) Tryz.call36 ?_
 refine aB 145 [num b] (cG) (by kernel_rfl) Tryz.call145 ?_
 refine aB 128 [nt b.num.natAbs,.fv (.sc (.lit (.slice none 0 0)))] (Fits.args (gcdF (b:=0) (lb.1.mono (by omega)) (Lv.one _ (by rw [aH];omega)) (.inl (num_ne hb))) (fun β vs w ⟨v,r,e,k1,⟨v2,r2,e2,k2,k3⟩⟩=>⟨v,r,e,k1,v2,r2,e2,nil_nt k2,k3⟩)) (by kernel_rfl) Tryz.call128 ?_
 refine aB 128 [nt b.den,nt (1)] (gcdF (lb.2.mono (by omega)) (Lv.one _ (by rw [aH];omega)) (.inl b.den_pos)) (by kernel_rfl) Tryz.call128 ?_
 refine aB 129 [nt b.den,nt (Nat.gcd b.den (1))] (eX (lb.2.mono (by omega)) (Nat.gcd_pos_of_pos_left _ b.den_pos)) (by kernel_rfl) Tryz.call129 ?_
 refine aB 131 [nt (1),nt (b.den/Nat.gcd b.den (1))] (fY (Lv.one _ (by rw [aH];omega)) ((lb.2.mono (by omega)).le (Nat.div_le_self _ _))) (by kernel_rfl) Tryz.call131 ?_
 refine aB 36 [num c] (bS (b:=true) (by simpa using hc)) (by kernel_rfl) Tryz.call36 ?_
 refine aB 63 [bl false,nt ((1)*(b.den/Nat.gcd b.den (1))),nt (Nat.gcd b.num.natAbs (0))] (ratioF (lD1.mono (by omega)) (lN.mono (by omega)) hN) (by kernel_rfl) Tryz.call63 ?_
 refine aB 65 [fra (mkRat (sg false ((1)*(b.den/Nat.gcd b.den (1)))) (Nat.gcd b.num.natAbs (0)))] (numberF) (by kernel_rfl) Tryz.call65 ?_
 exact aO Tryz.func200 (by kernel_rfl)
theorem whole_001 (la:Lf 30 a) (lb:Lf 30 b) (lc:Lf 30 c) (ha:a=0) (hb:b=0) (hc:¬ c=0):Fits Tryz.prog 200 [vc a b c] (num (bW a b c)):=by
 have e:bW a b c=mkRat (sg false ((1)*(c.den/Nat.gcd c.den (1)))) (Nat.gcd c.num.natAbs (0)):=by
  unfold bW wn wd
  simp only [if_pos ha,if_pos hb,if_neg hc]
 have lN:Lv 30 (Nat.gcd c.num.natAbs (0)):=by
  have:=dJ (k:=30) lc (dJ lb (dJ la (n:=0) (Lv.one _ (by rw [aH];omega))))
  unfold wn at this
  simpa only [if_pos ha,if_pos hb,if_neg hc] using this
 have lD2:Lv 33 ((1)*(c.den/Nat.gcd c.den (1))):=(show Lv 32 (1) from (Lv.one _ (by rw [aH];omega))).mul (lc.2.mono (by omega) |>.le (Nat.div_le_self _ _))
 have hN:0<Nat.gcd c.num.natAbs (0):=by
  have:=(show 0<wn c (wn b (wn a 0)) from wn_pos hc)
  unfold wn at this
  simpa only [if_pos ha,if_pos hb,if_neg hc] using this
 rw [e]
 refine fX Tryz.func200 (by kernel_rfl) fun w00=>?_
 refine aB 104 [.fv (.sc (.lit (.int .u64 ((1:Nat):Int))))] (gF (by rw [aH];omega)) (by kernel_rfl) Tryz.call104 ?_
 refine aB 36 [num a] (bS (b:=true) (by simpa using ha)) (by kernel_rfl) Tryz.call36 ?_
 refine aB 36 [num b] (bS (b:=true) (by simpa using hb)) (by kernel_rfl) Tryz.call36 ?_
 refine aB 36 [num c] (bS (b:=false) (by simpa using hc)) (by kernel_rfl) Tryz.call36 ?_
 refine aB 145 [num c] (cG) (by kernel_rfl) Tryz.call145 ?_
 refine aB 128 [nt c.num.natAbs,.fv (.sc (.lit (.slice none 0 0)))] (Fits.args (gcdF (b:=0) (lc.1.mono (by omega)) (Lv.one _ (by rw [aH];omega)) (.inl (num_ne hc))) (fun β vs w ⟨v,r,e,k1,⟨v2,r2,e2,k2,k3⟩⟩=>⟨v,r,e,k1,v2,r2,e2,nil_nt k2,k3⟩)) (by kernel_rfl) Tryz.call128 ?_
 refine aB 128 [nt c.den,nt (1)] (gcdF (lc.2.mono (by omega)) (Lv.one _ (by rw [aH];omega)) (.inl c.den_pos)) (by kernel_rfl) Tryz.call128 ?_
 refine aB 129 [nt c.den,nt (Nat.gcd c.den (1))] (eX (lc.2.mono (by omega)) (Nat.gcd_pos_of_pos_left _ c.den_pos)) (by kernel_rfl) Tryz.call129 ?_
 refine aB 131 [nt (1),nt (c.den/Nat.gcd c.den (1))] (fY (Lv.one _ (by rw [aH];omega)) ((lc.2.mono (by omega)).le (Nat.div_le_self _ _))) (by kernel_rfl) Tryz.call131 ?_
 refine aB 63 [bl false,nt ((1)*(c.den/Nat.gcd c.den (1))),nt (Nat.gcd c.num.natAbs (0))] (ratioF (lD2.mono (by omega)) (lN.mono (by omega)) hN) (by kernel_rfl) Tryz.call63 ?_
 refine aB 65 [fra (mkRat (sg false ((1)*(c.den/Nat.gcd c.den (1)))) (Nat.gcd c.num.natAbs (0)))] (numberF) (by kernel_rfl) Tryz.call65 ?_
 exact aO Tryz.func200 (by kernel_rfl)
theorem wholeF (la:Lf 30 a) (lb:Lf 30 b) (lc:Lf 30 c) (h:¬ (a=0∧b=0∧c=0)):Fits Tryz.prog 200 [vc a b c] (num (bW a b c)):=by
 by_cases ha:a=0 <;> by_cases hb:b=0 <;> by_cases hc:c=0
 ·exact absurd ⟨ha,hb,hc⟩ h
 ·exact whole_001 la lb lc ha hb hc
 ·exact whole_010 la lb lc ha hb hc
 ·exact whole_011 la lb lc ha hb hc
 ·exact whole_100 la lb lc ha hb hc
 ·exact whole_101 la lb lc ha hb hc
 ·exact whole_110 la lb lc ha hb hc
 ·exact whole_111 la lb lc ha hb hc
end
section
variable {n1 n2 n3 d k:Rat} {z1 z2 z3:Int}
theorem mkRat_le (n:Int) {d:Nat} (hd:0<d):(mkRat n d).num.natAbs≤n.natAbs∧(mkRat n d).den≤d:=by
 rw [Rat.num_mkRat,Rat.den_mkRat,if_neg (by omega),if_neg (by omega)]
 exact ⟨Int.natAbs_ediv_le_natAbs _ _,Nat.div_le_self _ _⟩
theorem lf_whole {a b c:Rat} (la:Lf 30 a) (lb:Lf 30 b) (lc:Lf 30 c) (h:¬ (a=0∧b=0∧c=0)):Lf 33 (bW a b c):=by
 have hN:0<wn c (wn b (wn a 0)):=by
  by_cases ha:a=0
  ·by_cases hb:b=0
   ·exact wn_pos (fun hc=>h ⟨ha,hb,hc⟩)
   ·exact wn_pos' (wn_pos hb)
  ·exact wn_pos' (wn_pos' (wn_pos ha))
 have l1:Lv 33 (wd c (wd b (wd a 1))):=lv_wd (lc.mono (by decide)) (lv_wd (lb.mono (by decide)) (lv_wd (k:=30) la (Lv.one _ (by rw [aH];omega))))
 have l2:Lv 33 (wn c (wn b (wn a 0))):=(dJ lc (dJ lb (dJ la (n:=0) (Lv.one _ (by rw [aH];omega))))).mono (by omega)
 have hm:=mkRat_le (sg false (wd c (wd b (wd a 1)))) hN
 have e:(sg false (wd c (wd b (wd a 1)))).natAbs=wd c (wd b (wd a 1)):=by simp [sg]
 rw [e] at hm
 exact ⟨l1.le hm.1,l2.le hm.2⟩
theorem reducedF (l1:Lf 30 n1) (l2:Lf 30 n2) (l3:Lf 30 n3) (ld:Lf 38 d) (h:¬ (n1=0∧n2=0∧n3=0)) :
 Fits Tryz.prog 138 [hf n1 n2 n3 d] (hf (bW n1 n2 n3*n1) (bW n1 n2 n3*n2) (bW n1 n2 n3*n3) (d*bW n1 n2 n3)):=by
 have lk:=(lf_whole l1 l2 l3 h).mono (l:=38) (by decide)
 refine fX Tryz.func138 (by kernel_rfl) fun w00=>?_
 refine aB 200 [vc n1 n2 n3] (wholeF l1 l2 l3 h) (by kernel_rfl) Tryz.call200 ?_
 refine aB 38 [vc n1 n2 n3,num (bW n1 n2 n3)] (scaledF lk (l1.mono (by decide)) (l2.mono (by decide)) (l3.mono (by decide))) (by kernel_rfl) Tryz.call38 ?_
 refine aB 94 [num d,num (bW n1 n2 n3)] (fS ld lk) (by kernel_rfl) Tryz.call94 ?_
 exact aO Tryz.func138 (by kernel_rfl)
abbrev hfI (z1 z2 z3:Int) (d:Rat):AV Kn := .fv (.ag [.lit (.int .i64 z1),z0,.lit (.pointer none),.lit (.int .i64 z2),z0,.lit (.pointer none),.lit (.int .i64 z3),z0,.lit (.pointer none),nb d])
abbrev Sz (z:Int):Prop := -999999999≤z∧z≤999999999
theorem nb_int {z:Int} (hz:Sz z) {cs:List Value} {w:World} (h:(csNb (z:Rat)).pred cs w):cs = [.int .i64 z,.int .i64 0,.pointer none]:=by
 have hm:Sm (z:Rat):=by
  constructor
  ·rw [Rat.num_intCast,eS];omega
  ·rw [Rat.den_intCast,eS];omega
 rcases h with ⟨_,e⟩|⟨h2,_⟩
 ·injection e with e
  have:=congrArg Array.toList e
  simpa using this
 ·exact absurd hm h2
theorem hf_int {β:List Nat} {v:Value} {w:World} {q1 q2 q3:Rat} (e1:q1=z1) (e2:q2=z2) (e3:q3=z3) (h1:Sz z1) (h2:Sz z2) (h3:Sz z3) (h:(hf q1 q2 q3 d).holds β v w):(hfI z1 z2 z3 d).holds β v w:=by
 subst e1
 subst e2
 subst e3
 obtain ⟨cs,rfl,x1,r1,rfl,k1,x2,r2,rfl,k2,x3,r3,rfl,k3,hr⟩:=h
 rw [nb_int h1 k1,nb_int h2 k2,nb_int h3 k3]
 exact ⟨_,rfl,[_],_,rfl,⟨rfl,rfl⟩,[_],_,rfl,⟨rfl,rfl⟩,[_],_,rfl,⟨rfl,rfl⟩,[_],_,rfl,⟨rfl,rfl⟩,[_],_,rfl,⟨rfl,rfl⟩,[_],_,rfl,⟨rfl,rfl⟩,[_],_,rfl,⟨rfl,rfl⟩,[_],_,rfl,⟨rfl,rfl⟩,[_],_,rfl,⟨rfl,rfl⟩,hr⟩
theorem Fits.res {P:Program} {f:FuncId} {l:List (AV Kn)} {x y:AV Kn} (h:Fits P f l x) (hx:∀ β v w,x.holds β v w→y.holds β v w):Fits P f l y:=fun β w vs hv =>
 (h β w vs hv).mono fun e w' ⟨v,e1,e2,e3⟩=>⟨v,e1,e2,hx β v w' e3⟩
theorem magnitudeF {z:Int} (hz:Sz z):Fits Tryz.prog 139 [it z] (.fv (.sc (isU (z.natAbs:Int)))):=by
 intro β w vs hv
 obtain ⟨v,rfl,h1⟩:=dN hv
 rw [aN h1]
 exact (fB z w (by have:=hz.1;omega) (by have:=hz.2;omega)).mono fun e w' ⟨e1,e2⟩=>⟨_,e1,by rw [← e2];exact Below.refl _ _,bE⟩
theorem gtU_run {o:Oper} {ρ:Operand→Value} {w:World} {x y:Operand} {a b:Int} {r:Bool} {T T' : TypeId} (ho:o.op = .binOp .gtr T x y T') (hx:ρ x = .int .u64 a) (hy:ρ y = .int .u64 b) (h:decide (b<a)=r) :
 (execOp ρ o).run Tryz.prog w = .ok (.value (.bool r)) w:=by
 simp only [execOp,ho,hx,hy]
 refine bK ?_
 rw [← h]
 exact bQ (by kernel_rfl) w
section
variable {f:FuncId} {w00:World} {Out:Value→World→Prop}
theorem kgtU {c:Cfg Kn} (t:Tmp) (a b:Int) (r:Bool) (h:decide (b<a)=r) (hc:(c.op.map fun o=>o.op,c.okT (bl r),c.ev (.tmp t),c.ev (.const (.int .u64 b)))=(some (.binOp .gtr 151 (.tmp t) (.const (.int .u64 b)) 151),true,.fv (.sc (isU a)),.fv (.sc (.lit (.int .u64 b)))))
 (hg:Ok Tryz.prog f w00 Out (dQ Tryz.prog 1000 (c.give (bl r)))):Ok Tryz.prog f w00 Out c :=
 dS _ (.tmp t) (.const (.int .u64 b)) _ _ (bl r) hc (by simp [Op.operands]) (by simp [Op.operands]) (fun ρ o β w ho hx hy=>⟨_,gtU_run ho (aP hx) (aN hy) h,aX rfl⟩) hg
end
abbrev hS (z1 z2 z3:Int) (d:Rat):AV Kn := .fv (.ag [.lit (.int .i64 z1),.lit (.int .i64 z2),.lit (.int .i64 z3),dG (writeB d)])
abbrev okH (z1 z2 z3:Int) (d:Rat):AV Kn := .tup [.ag [.lit (.int .i64 z1),.lit (.int .i64 z2),.lit (.int .i64 z3),dG (writeB d)],.sc z0]
structure Form (n1 n2 n3 d:Rat) (z1 z2 z3:Int) (e:Rat):Prop where
 l1:Lf 30 n1
 l2:Lf 30 n2
 l3:Lf 30 n3
 ld:Lf 38 d
 h0:¬ (n1=0∧n2=0∧n3=0)
 e1:bW n1 n2 n3*n1=z1
 e2:bW n1 n2 n3*n2=z2
 e3:bW n1 n2 n3*n3=z3
 ed:d*bW n1 n2 n3=e
 s1:Sz z1
 s2:Sz z2
 s3:Sz z3
 wr:Wr e
theorem hWriteF {e:Rat} (h:Form n1 n2 n3 d z1 z2 z3 e):FitsW Tryz.prog Gl 72 [hf n1 n2 n3 d] (okH z1 z2 z3 e):=by
 have g:∀ {z:Int},Sz z→decide ((999999999:Int)<(z.natAbs:Int))=false:=fun hz=>by have:=hz.1;have:=hz.2;rw [decide_eq_false_iff_not];omega
 have gr:Fits Tryz.prog 138 [hf n1 n2 n3 d] (hfI z1 z2 z3 e):=Fits.res (reducedF h.l1 h.l2 h.l3 h.ld h.h0) (fun β v w hv=>hf_int h.e1 h.e2 h.e3 h.s1 h.s2 h.s3 (by rw [h.ed] at hv;exact hv))
 refine cJ Tryz.func72 (by kernel_rfl) fun w00 hG=>?_;have hI:=aU hG
 refine aB 138 [hf n1 n2 n3 d] (gr) (by kernel_rfl) Tryz.call138 ?_
 refine aJ hI 45 [num e] (writeF (h.wr.lf.mono (by decide)) h.wr.n h.wr.d) (by kernel_rfl) Tryz.call45 ?_
 refine aB 139 [it z1] (magnitudeF h.s1) (by kernel_rfl) Tryz.call139 ?_
 refine kgtU 34 z1.natAbs 999999999 false (g h.s1) (by kernel_rfl) ?_
 refine aB 139 [it z2] (magnitudeF h.s2) (by kernel_rfl) Tryz.call139 ?_
 refine kgtU 34 z2.natAbs 999999999 false (g h.s2) (by kernel_rfl) ?_
 refine aB 139 [it z3] (magnitudeF h.s3) (by kernel_rfl) Tryz.call139 ?_
 refine kgtU 34 z3.natAbs 999999999 false (g h.s3) (by kernel_rfl) ?_
 exact aO Tryz.func72 (by kernel_rfl)
theorem readHalfF (h1:M64 z1) (h2:M64 z2) (h3:M64 z3) (hd:Wr d) (hc:Fits Tryz.prog 93 [iv z1 z2 z3] (it 0)):FitsW Tryz.prog Gl 32 [hS z1 z2 z3 d] (.tup [.ag [nb z1,nb z2,nb z3,nb d],.sc z0]):=by
 refine cJ Tryz.func32 (by kernel_rfl) fun w00 hG=>?_;have hI:=aU hG
 refine aJ hI 71 [tx (writeB d)] (readF hd) (by kernel_rfl) Tryz.call71 ?_
 refine aB 84 [iv z1 z2 z3] (integersF h1 h2 h3) (by kernel_rfl) Tryz.call84 ?_
 refine aB 93 [iv z1 z2 z3] (hc) (by kernel_rfl) Tryz.call93 ?_
 refine aB 34 [.fv (.nsl 2 30 [z0,z0])] (fZ) (by kernel_rfl) Tryz.call34 ?_
 exact aO Tryz.func32 (by kernel_rfl)
end
theorem dU {a b:Nat} (ha:a<aD) (hb:b<aD):Fits (Kc:=Kn) Tryz.prog 151 [.fv (.sc (.lit (.int .u64 (a:Int)))),.fv (.sc (.lit (.int .u64 (b:Int))))] (.fv (.sc (.lit (.int .u64 ((Nat.gcd a b:Nat):Int))))):=by
 intro β w vs hv
 obtain ⟨v,u,rfl,h1,h2⟩:=eN hv
 rw [aN h1,aN h2]
 exact (gcdWords_any a b w ha hb).mono fun e w' ⟨e1,e2⟩=>⟨_,e1,by first|exact e2|(rw [← e2];exact Below.refl _ _),aX rfl⟩
theorem ck_111:Fits Tryz.prog 93 [iv (1) (1) (1)] (it 0):=by
 refine fX Tryz.func93 (by kernel_rfl) fun w00=>?_
 refine aB 151 [.fv (.sc (.lit (.int .u64 ((0:Nat):Int)))),.fv (.sc (.lit (.int .u64 ((1:Nat):Int))))] (dU (by rw [aH];omega) (by rw [aH];omega)) (by kernel_rfl) Tryz.call151 ?_
 refine aB 151 [.fv (.sc (.lit (.int .u64 ((1:Nat):Int)))),.fv (.sc (.lit (.int .u64 ((1:Nat):Int))))] (dU (by rw [aH];omega) (by rw [aH];omega)) (by kernel_rfl) Tryz.call151 ?_
 refine aB 151 [.fv (.sc (.lit (.int .u64 ((1:Nat):Int)))),.fv (.sc (.lit (.int .u64 ((1:Nat):Int))))] (dU (by rw [aH];omega) (by rw [aH];omega)) (by kernel_rfl) Tryz.call151 ?_
 exact aO Tryz.func93 (by kernel_rfl)
theorem ck_100:Fits Tryz.prog 93 [iv (1) (0) (0)] (it 0):=by
 refine fX Tryz.func93 (by kernel_rfl) fun w00=>?_
 refine aB 151 [.fv (.sc (.lit (.int .u64 ((0:Nat):Int)))),.fv (.sc (.lit (.int .u64 ((1:Nat):Int))))] (dU (by rw [aH];omega) (by rw [aH];omega)) (by kernel_rfl) Tryz.call151 ?_
 refine aB 151 [.fv (.sc (.lit (.int .u64 ((1:Nat):Int)))),.fv (.sc (.lit (.int .u64 ((0:Nat):Int))))] (dU (by rw [aH];omega) (by rw [aH];omega)) (by kernel_rfl) Tryz.call151 ?_
 refine aB 151 [.fv (.sc (.lit (.int .u64 ((1:Nat):Int)))),.fv (.sc (.lit (.int .u64 ((0:Nat):Int))))] (dU (by rw [aH];omega) (by rw [aH];omega)) (by kernel_rfl) Tryz.call151 ?_
 exact aO Tryz.func93 (by kernel_rfl)
theorem ck_302:Fits Tryz.prog 93 [iv (3) (0) (-2)] (it 0):=by
 refine fX Tryz.func93 (by kernel_rfl) fun w00=>?_
 refine aB 151 [.fv (.sc (.lit (.int .u64 ((0:Nat):Int)))),.fv (.sc (.lit (.int .u64 ((3:Nat):Int))))] (dU (by rw [aH];omega) (by rw [aH];omega)) (by kernel_rfl) Tryz.call151 ?_
 refine aB 151 [.fv (.sc (.lit (.int .u64 ((3:Nat):Int)))),.fv (.sc (.lit (.int .u64 ((0:Nat):Int))))] (dU (by rw [aH];omega) (by rw [aH];omega)) (by kernel_rfl) Tryz.call151 ?_
 refine aB 151 [.fv (.sc (.lit (.int .u64 ((3:Nat):Int)))),.fv (.sc (.lit (.int .u64 ((2:Nat):Int))))] (dU (by rw [aH];omega) (by rw [aH];omega)) (by kernel_rfl) Tryz.call151 ?_
 exact aO Tryz.func93 (by kernel_rfl)
section
variable {z1 z2 z3:Int} {d p1 p2 p3 n1 n2 n3 e:Rat}
structure Hv (z1 z2 z3:Int) (d:Rat):Prop where
 s1:Sz z1
 s2:Sz z2
 s3:Sz z3
 d:Wr d
 ck:Fits Tryz.prog 93 [iv z1 z2 z3] (it 0)
theorem cH {z:Int} (h:Sz z) {k:Nat}:Lf k (z:Rat):=Lf.int (Lv.one _ (by have:=h.1;have:=h.2;rw [aH];omega))
theorem m_sz {z:Int} (h:Sz z):M64 z:=⟨by have:=h.1;omega,by have:=h.2;omega⟩
theorem readHV (h:Hv z1 z2 z3 d) (k:Wr3 p1 p2 p3):FitsW Tryz.prog Gl 31 [fnv 32,hS z1 z2 z3 d,fnv 33,vS p1 p2 p3] (.tup [.ag [nb z1,nb z2,nb z3,nb d],.ag [nb p1,nb p2,nb p3],.sc z0]):=by
 refine cJ Tryz.func31 (by kernel_rfl) fun w00 hG=>?_;have hI:=aU hG
 refine aJ hI 32 [hS z1 z2 z3 d] (readHalfF (m_sz h.s1) (m_sz h.s2) (m_sz h.s3) h.d h.ck) (by kernel_rfl) Tryz.call32 ?_
 refine aJ hI 33 [vS p1 p2 p3] (fV k) (by kernel_rfl) Tryz.call33 ?_
 refine aB 34 [.fv (.nsl 2 30 [z0,z0])] (fZ) (by kernel_rfl) Tryz.call34 ?_
 exact aO Tryz.func31 (by kernel_rfl)
theorem apiSideF {s:Int} (h:Hv z1 z2 z3 d) (k:Wr3 p1 p2 p3) (hs:sgnR (dt z1 z2 z3 p1 p2 p3-d)=s):FitsW Tryz.prog Gl 29 [hS z1 z2 z3 d,vS p1 p2 p3] (.tup [.sc (.lit (.int .i64 s)),.sc z0]):=by
 rw [← hs]
 refine cJ Tryz.func29 (by kernel_rfl) fun w00 hG=>?_;have hI:=aU hG
 refine aJ hI 31 [fnv 32,hS z1 z2 z3 d,fnv 33,vS p1 p2 p3] (readHV h k) (by kernel_rfl) Tryz.call31 ?_
 refine aB 39 [hf z1 z2 z3 d,vc p1 p2 p3] (excessF (cH h.s1) (cH h.s2) (cH h.s3) (h.d.lf.mono (by decide)) (k.1.lf.mono (by decide)) (k.2.1.lf.mono (by decide)) (k.2.2.lf.mono (by decide))) (by kernel_rfl) Tryz.call39 ?_
 refine aB 90 [num (dt z1 z2 z3 p1 p2 p3-d)] (signF) (by kernel_rfl) Tryz.call90 ?_
 exact aO Tryz.func29 (by kernel_rfl)
theorem apiMakeHalfF (k:Wr3 n1 n2 n3) (hd:Wr d) (h:Form n1 n2 n3 d z1 z2 z3 e):FitsW Tryz.prog Gl 22 [vS n1 n2 n3,tx (writeB d)] (okH z1 z2 z3 e):=by
 have h0:(decide (n1=0)&&decide (n2=0)&&decide (n3=0))=false:=by
  rw [Bool.eq_false_iff]
  intro hh
  simp only [Bool.and_eq_true,decide_eq_true_eq] at hh
  exact h.h0 ⟨hh.1.1,hh.1.2,hh.2⟩
 refine cJ Tryz.func22 (by kernel_rfl) fun w00 hG=>?_;have hI:=aU hG
 refine aJ hI 70 [fnv 33,vS n1 n2 n3,fnv 71,tx (writeB d)] (readVR k hd) (by kernel_rfl) Tryz.call70 ?_
 refine aB 67 [vc n1 n2 n3] (vIsZeroF h0) (by kernel_rfl) Tryz.call67 ?_
 refine aJ hI 72 [hf n1 n2 n3 d] (hWriteF h) (by kernel_rfl) Tryz.call72 ?_
 exact aO Tryz.func22 (by kernel_rfl)
variable {a1 a2 a3 b1 b2 b3 c1 c2 c3:Rat}
theorem apiThroughF (ka:Wr3 a1 a2 a3) (kb:Wr3 b1 b2 b3) (kc:Wr3 c1 c2 c3) {m1 m2 m3:Rat}
 (e1:(b2-a2)*(c3-a3)-(b3-a3)*(c2-a2)=m1) (e2:(b3-a3)*(c1-a1)-(b1-a1)*(c3-a3)=m2) (e3:(b1-a1)*(c2-a2)-(b2-a2)*(c1-a1)=m3)
 (h:Form m1 m2 m3 (dt m1 m2 m3 a1 a2 a3) z1 z2 z3 e):FitsW Tryz.prog Gl 23 [vS a1 a2 a3,vS b1 b2 b3,vS c1 c2 c3] (okH z1 z2 z3 e):=by
 have h0:(decide (m1=0)&&decide (m2=0)&&decide (m3=0))=false:=by
  rw [Bool.eq_false_iff]
  intro hh
  simp only [Bool.and_eq_true,decide_eq_true_eq] at hh
  exact h.h0 ⟨hh.1.1,hh.1.2,hh.2⟩
 have s:∀ {x y:Rat},Wr x→Wr y→Lf 35 (x-y):=fun hx hy=>Lf.subn (hx.lf.mono (by decide)) (hy.lf.mono (by decide)) (by decide)
 have hcross:Fits Tryz.prog 68 [vc (b1-a1) (b2-a2) (b3-a3),vc (c1-a1) (c2-a2) (c3-a3)] (vc m1 m2 m3):=by
  have:=crossF (s kb.1 ka.1) (s kb.2.1 ka.2.1) (s kb.2.2 ka.2.2) (s kc.1 ka.1) (s kc.2.1 ka.2.1) (s kc.2.2 ka.2.2)
  rw [e1,e2,e3] at this
  exact this
 refine cJ Tryz.func23 (by kernel_rfl) fun w00 hG=>?_;have hI:=aU hG
 refine aJ hI 66 [fnv 33,vS a1 a2 a3,fnv 33,vS b1 b2 b3] (readVV ka kb) (by kernel_rfl) Tryz.call66 ?_
 refine aJ hI 33 [vS c1 c2 c3] (fV kc) (by kernel_rfl) Tryz.call33 ?_
 refine aB 34 [.fv (.nsl 2 30 [z0,z0])] (fZ) (by kernel_rfl) Tryz.call34 ?_
 refine aB 37 [vc b1 b2 b3,vc a1 a2 a3] (vminusF (kb.1.lf.mono (by decide)) (kb.2.1.lf.mono (by decide)) (kb.2.2.lf.mono (by decide)) (ka.1.lf.mono (by decide)) (ka.2.1.lf.mono (by decide)) (ka.2.2.lf.mono (by decide))) (by kernel_rfl) Tryz.call37 ?_
 refine aB 37 [vc c1 c2 c3,vc a1 a2 a3] (vminusF (kc.1.lf.mono (by decide)) (kc.2.1.lf.mono (by decide)) (kc.2.2.lf.mono (by decide)) (ka.1.lf.mono (by decide)) (ka.2.1.lf.mono (by decide)) (ka.2.2.lf.mono (by decide))) (by kernel_rfl) Tryz.call37 ?_
 refine aB 68 [vc (b1-a1) (b2-a2) (b3-a3),vc (c1-a1) (c2-a2) (c3-a3)] (hcross) (by kernel_rfl) Tryz.call68 ?_
 refine aB 67 [vc m1 m2 m3] (vIsZeroF h0) (by kernel_rfl) Tryz.call67 ?_
 refine aB 35 [vc m1 m2 m3,vc a1 a2 a3] (dotF (h.l1.mono (by decide)) (h.l2.mono (by decide)) (h.l3.mono (by decide)) (ka.1.lf.mono (by decide)) (ka.2.1.lf.mono (by decide)) (ka.2.2.lf.mono (by decide))) (by kernel_rfl) Tryz.call35 ?_
 refine aJ hI 72 [hf m1 m2 m3 (dt m1 m2 m3 a1 a2 a3)] (hWriteF h) (by kernel_rfl) Tryz.call72 ?_
 exact aO Tryz.func23 (by kernel_rfl)
theorem apiMirrorF {m1 m2 m3:Rat} (h:Hv z1 z2 z3 d) (k:Wr3 p1 p2 p3) (h0:dt (z1:Rat) z2 z3 z1 z2 z3≠0)
 (e1:p1+((2:Int):Rat)*(dF z1 z2 z3 d p1 p2 p3*z1)=m1) (e2:p2+((2:Int):Rat)*(dF z1 z2 z3 d p1 p2 p3*z2)=m2) (e3:p3+((2:Int):Rat)*(dF z1 z2 z3 d p1 p2 p3*z3)=m3) (hr:Wr3 m1 m2 m3) :
 FitsW Tryz.prog Gl 9 [hS z1 z2 z3 d,vS p1 p2 p3] (okVS m1 m2 m3):=by
 have lw:Lf 20 (dF z1 z2 z3 d p1 p2 p3):=lf_way (cH h.s1) (cH h.s2) (cH h.s3) (h.d.lf.mono (by decide)) (k.1.lf.mono (by decide)) (k.2.1.lf.mono (by decide)) (k.2.2.lf.mono (by decide)) (by decide)
 have l2:Lf 20 ((2:Int):Rat):=Lf.int (Lv.one _ (by rw [aH];decide))
 have lm:∀ {z:Int},Sz z→Lf 22 (((2:Int):Rat)*(dF z1 z2 z3 d p1 p2 p3*z)):=fun hz=>Lf.muln (n:=22) (l2.mono (by decide)) (Lf.muln (n:=21) lw (cH hz) (by decide)) (by decide)
 have hp:Fits Tryz.prog 42 [vc p1 p2 p3,vc (((2:Int):Rat)*(dF z1 z2 z3 d p1 p2 p3*z1)) (((2:Int):Rat)*(dF z1 z2 z3 d p1 p2 p3*z2)) (((2:Int):Rat)*(dF z1 z2 z3 d p1 p2 p3*z3))] (vc m1 m2 m3):=by
  rw [← e1,← e2,← e3]
  exact vplusF (k.1.lf.mono (by decide)) (k.2.1.lf.mono (by decide)) (k.2.2.lf.mono (by decide)) ((lm h.s1).mono (by decide)) ((lm h.s2).mono (by decide)) ((lm h.s3).mono (by decide))
 refine cJ Tryz.func9 (by kernel_rfl) fun w00 hG=>?_;have hI:=aU hG
 refine aJ hI 31 [fnv 32,hS z1 z2 z3 d,fnv 33,vS p1 p2 p3] (readHV h k) (by kernel_rfl) Tryz.call31 ?_
 refine aB 43 [hf z1 z2 z3 d,vc p1 p2 p3] (toPlaneF (cH h.s1) (cH h.s2) (cH h.s3) (h.d.lf.mono (by decide)) (k.1.lf.mono (by decide)) (k.2.1.lf.mono (by decide)) (k.2.2.lf.mono (by decide)) h0) (by kernel_rfl) Tryz.call43 ?_
 refine aB 46 [it 2] (integerF (by constructor <;> omega)) (by kernel_rfl) Tryz.call46 ?_
 refine aB 38 [vc (dF z1 z2 z3 d p1 p2 p3*z1) (dF z1 z2 z3 d p1 p2 p3*z2) (dF z1 z2 z3 d p1 p2 p3*z3),num ((2:Int):Rat)] (scaledF (l2.mono (by decide)) (Lf.muln (n:=38) (lw.mono (by decide)) (cH h.s1) (by decide)) (Lf.muln (n:=38) (lw.mono (by decide)) (cH h.s2) (by decide)) (Lf.muln (n:=38) (lw.mono (by decide)) (cH h.s3) (by decide))) (by kernel_rfl) Tryz.call38 ?_
 refine aB 42 [vc p1 p2 p3,vc (((2:Int):Rat)*(dF z1 z2 z3 d p1 p2 p3*z1)) (((2:Int):Rat)*(dF z1 z2 z3 d p1 p2 p3*z2)) (((2:Int):Rat)*(dF z1 z2 z3 d p1 p2 p3*z3))] (hp) (by kernel_rfl) Tryz.call42 ?_
 refine aJ hI 41 [vc m1 m2 m3] (writeVecF hr (hr.1.lf.mono (by decide)) (hr.2.1.lf.mono (by decide)) (hr.2.2.lf.mono (by decide))) (by kernel_rfl) Tryz.call41 ?_
 exact aO Tryz.func9 (by kernel_rfl)
theorem apiMeetF {v1 v2 v3 m1 m2 m3:Rat} (h:Hv z1 z2 z3 d) (k:Wr3 p1 p2 p3) (kv:Wr3 v1 v2 v3) (h0:dt z1 z2 z3 v1 v2 v3≠0)
 (e1:p1-(dt z1 z2 z3 p1 p2 p3-d)/dt z1 z2 z3 v1 v2 v3*v1=m1) (e2:p2-(dt z1 z2 z3 p1 p2 p3-d)/dt z1 z2 z3 v1 v2 v3*v2=m2) (e3:p3-(dt z1 z2 z3 p1 p2 p3-d)/dt z1 z2 z3 v1 v2 v3*v3=m3) (hr:Wr3 m1 m2 m3) :
 FitsW Tryz.prog Gl 6 [hS z1 z2 z3 d,vS p1 p2 p3,vS v1 v2 v3] (okVS m1 m2 m3):=by
 have lE:Lf 16 (dt z1 z2 z3 p1 p2 p3-d):=Lf.subn (lf_dt (n:=14) (cH h.s1) (cH h.s2) (cH h.s3) (k.1.lf.mono (by decide)) (k.2.1.lf.mono (by decide)) (k.2.2.lf.mono (by decide)) (by decide)) (h.d.lf.mono (by decide)) (by decide)
 have lV:Lf 16 (dt z1 z2 z3 v1 v2 v3):=lf_dt (cH h.s1) (cH h.s2) (cH h.s3) (kv.1.lf.mono (by decide)) (kv.2.1.lf.mono (by decide)) (kv.2.2.lf.mono (by decide)) (by decide)
 have lQ:Lf 17 ((dt z1 z2 z3 p1 p2 p3-d)/dt z1 z2 z3 v1 v2 v3):=by
  rw [Rat.div_def]
  exact Lf.muln lE (Lf.inv lV) (by decide)
 have lm:∀ {x:Rat},Wr x→Lf 18 ((dt z1 z2 z3 p1 p2 p3-d)/dt z1 z2 z3 v1 v2 v3*x):=fun hx=>Lf.muln lQ (hx.lf.mono (by decide)) (by decide)
 have hi:decide (dt z1 z2 z3 v1 v2 v3=0)=false:=by rw [decide_eq_false_iff_not];exact h0
 obtain ⟨Q,hQ⟩:∃ Q,Q=(dt z1 z2 z3 p1 p2 p3-d)/dt z1 z2 z3 v1 v2 v3:=⟨_,rfl⟩
 rw [← hQ] at e1 e2 e3 lQ lm
 have ho:Fits Tryz.prog 40 [num (dt z1 z2 z3 p1 p2 p3-d),num (dt z1 z2 z3 v1 v2 v3)] (num Q):=by
  rw [hQ]
  exact overF (lE.mono (by decide)) (lV.mono (by decide)) h0
 have hp:Fits Tryz.prog 37 [vc p1 p2 p3,vc (Q*v1) (Q*v2) (Q*v3)] (vc m1 m2 m3):=by
  rw [← e1,← e2,← e3]
  exact vminusF (k.1.lf.mono (by decide)) (k.2.1.lf.mono (by decide)) (k.2.2.lf.mono (by decide)) ((lm kv.1).mono (by decide)) ((lm kv.2.1).mono (by decide)) ((lm kv.2.2).mono (by decide))
 refine cJ Tryz.func6 (by kernel_rfl) fun w00 hG=>?_;have hI:=aU hG
 refine aJ hI 31 [fnv 32,hS z1 z2 z3 d,fnv 33,vS p1 p2 p3] (readHV h k) (by kernel_rfl) Tryz.call31 ?_
 refine aJ hI 33 [vS v1 v2 v3] (fV kv) (by kernel_rfl) Tryz.call33 ?_
 refine aB 34 [.fv (.nsl 2 30 [z0,z0])] (fZ) (by kernel_rfl) Tryz.call34 ?_
 refine aB 35 [vc z1 z2 z3,vc v1 v2 v3] (dotF (cH h.s1) (cH h.s2) (cH h.s3) (kv.1.lf.mono (by decide)) (kv.2.1.lf.mono (by decide)) (kv.2.2.lf.mono (by decide))) (by kernel_rfl) Tryz.call35 ?_
 refine aB 36 [num (dt z1 z2 z3 v1 v2 v3)] (bS hi) (by kernel_rfl) Tryz.call36 ?_
 refine aB 39 [hf z1 z2 z3 d,vc p1 p2 p3] (excessF (cH h.s1) (cH h.s2) (cH h.s3) (h.d.lf.mono (by decide)) (k.1.lf.mono (by decide)) (k.2.1.lf.mono (by decide)) (k.2.2.lf.mono (by decide))) (by kernel_rfl) Tryz.call39 ?_
 refine aB 40 [num (dt z1 z2 z3 p1 p2 p3-d),num (dt z1 z2 z3 v1 v2 v3)] (ho) (by kernel_rfl) Tryz.call40 ?_
 refine aB 38 [vc v1 v2 v3,num Q] (scaledF (lQ.mono (by decide)) (kv.1.lf.mono (by decide)) (kv.2.1.lf.mono (by decide)) (kv.2.2.lf.mono (by decide))) (by kernel_rfl) Tryz.call38 ?_
 refine aB 37 [vc p1 p2 p3,vc (Q*v1) (Q*v2) (Q*v3)] (hp) (by kernel_rfl) Tryz.call37 ?_
 refine aJ hI 41 [vc m1 m2 m3] (writeVecF hr (hr.1.lf.mono (by decide)) (hr.2.1.lf.mono (by decide)) (hr.2.2.lf.mono (by decide))) (by kernel_rfl) Tryz.call41 ?_
 exact aO Tryz.func6 (by kernel_rfl)
end
end Go.Proofs.YtofcdondmgojiaaGreatDoor.Ab
