/- Parts of the proof, joined. -/
import Derived.Test.YtbkfbobdmojgnaaGreatDoorJ22
set_option linter.unusedSimpArgs false
set_option linter.unusedVariables false
namespace Go.Proofs.YtbkfbobdmojgnaaGreatDoor.Ab
open Go.RowKit Go.Proofs.YtbkfbobdmojgnaaGreatDoor Pl
theorem index_none47:∀ {l:List UInt8},AllDig l→Lib.index l [47] = -1
 | [],_=>rfl
 | c :: l,h=>by
   have hc:=h c (by simp)
   have h2:([47]:List UInt8).isPrefixOf (c::l)=false:=by
    simp [List.isPrefixOf]
    intro e
    rw [← e] at hc
    revert hc
    decide
   unfold Lib.index
   rw [h2,index_none47 (fun d hd=>h d (by simp [hd]))]
   rfl
theorem index_at47:∀ {l r:List UInt8},AllDig l→Lib.index (l++47::r) [47]=(l.length:Int)
 | [],r,_=>by
   unfold Lib.index
   rfl
 | c :: l,r,h=>by
   have hc:=h c (by simp)
   have h2:([47]:List UInt8).isPrefixOf (c::(l++47::r))=false:=by
    simp [List.isPrefixOf]
    intro e
    rw [← e] at hc
    revert hc
    decide
   have ih:=index_at47 (l:=l) (r:=r) (fun d hd=>h d (by simp [hd]))
   rw [List.cons_append]
   unfold Lib.index
   rw [h2,ih]
   have:((l.length:Int) == -1)=false:=by rw [beq_eq_false_iff_ne];omega
   rw [this]
   simp
def bodyB (q:Rat):ByteArray:=if q.den=1 then decB q.num.natAbs else decB q.num.natAbs++(⟨#[47]⟩++decB q.den)
theorem ba_ext {a b:ByteArray} (h:a.data.toList=b.data.toList):a=b:=by
 cases a;cases b
 simp only [ByteArray.mk.injEq]
 exact Array.toList_inj.1 h
theorem decB_list (n:Nat):(decB n).data.toList=Lib.decDigits n:=by simp [decB]
theorem write_neg {q:Rat} (h:q.num<0):writeB q=⟨#[45]⟩++bodyB q:=by
 apply ba_ext
 unfold writeB bodyB overB
 split <;> simp [h]
theorem write_pos {q:Rat} (h:¬ q.num<0):writeB q=bodyB q:=by
 unfold writeB bodyB overB
 simp only [h,if_false]
theorem body_list (q:Rat):∃ c r,(bodyB q).data.toList=c::r∧(48≤c.toNat∧c.toNat≤57):=by
 have hd:=natOf_dec q.num.natAbs
 obtain ⟨c,r,hl⟩:∃ c r,Lib.decDigits q.num.natAbs=c::r:=by
  cases h:Lib.decDigits q.num.natAbs with
  | nil=>exact absurd h hd.2.2
  | cons c r=>exact ⟨c,r,rfl⟩
 have hc:=hd.2.1 c (by rw [hl];simp)
 unfold bodyB
 split
 ·exact ⟨c,r,by rw [decB_list,hl],hc⟩
 ·exact ⟨c,r++(⟨#[47]⟩++decB q.den:ByteArray).data.toList,by rw [ByteArray.toList_data_append,decB_list,hl];rfl,hc⟩
theorem cutPrefixF {q:Rat} {neg:Bool} (hn:decide (q.num<0)=neg):Fits Tryz.prog 119 [tx (writeB q),lt ⟨#[45]⟩] (.tup [.sc (isS (bodyB q)),.sc (.lit (.bool neg))]):=by
 intro β w vs hv
 obtain ⟨v,u,rfl,h1,h2⟩:=args2 hv
 rw [hold_is h1,hold_lit h2]
 have key:(⟨(Lib.trimPrefix (writeB q).data.toList [45]).toArray⟩:ByteArray)=bodyB q∧Lib.hasPrefix (writeB q).data.toList [45]=neg:=by
  by_cases h:q.num<0
  ·have hneg:neg=true:=by rw [← hn];simpa using h
   rw [write_neg h,hneg]
   have e:(⟨#[45]⟩++bodyB q:ByteArray).data.toList=45::(bodyB q).data.toList:=by rw [ByteArray.toList_data_append];rfl
   rw [e]
   refine ⟨ba_ext (by simp [Lib.trimPrefix,Lib.hasPrefix]),by simp [Lib.hasPrefix]⟩
  ·have hneg:neg=false:=by rw [← hn];simpa using h
   rw [write_pos h,hneg]
   obtain ⟨c,r,e,hc⟩:=body_list q
   have hp:Lib.hasPrefix (bodyB q).data.toList [45]=false:=by
    rw [e]
    simp [Lib.hasPrefix,List.isPrefixOf]
    intro h45
    rw [← h45] at hc
    revert hc
    decide
   refine ⟨ba_ext (by unfold Lib.trimPrefix;rw [hp];simp),hp⟩
 refine (Tryz.strings_CutPrefix (writeB q) ⟨#[45]⟩ w).mono fun e w' ⟨e1,e2⟩=>⟨_,e1,by rw [e2];exact Below.refl _ _,?_⟩
 rw [show (⟨#[45]⟩:ByteArray).data.toList = [45] from rfl,key.1,key.2]
 exact ⟨[.string (bodyB q),.bool neg],rfl,_,_,rfl,is_hold (β:=β),_,_,rfl,⟨rfl,rfl⟩,rfl⟩
theorem cutF {s a b:ByteArray} {r:Bool} (hs:s.size<4294967281) (h:Lib.cut s.data.toList [47]=(a.data.toList,b.data.toList,r)):FitsW Tryz.prog Gl 146 [tx s,lt ⟨#[47]⟩] (.tup [.sc (isS a),.sc (isS b),.sc (.lit (.bool r))]):=by
 intro β w vs hG hv
 obtain ⟨v,u,rfl,h1,h2⟩:=args2 hv
 rw [hold_is h1,hold_lit h2]
 obtain ⟨m,hm⟩:=hG.2
 refine (Tryz.strings_Cut s ⟨#[47]⟩ m w hs hm).mono fun e w' ⟨e1,n,e2⟩=>⟨_,e1,by rw [e2];exact below_drewN w n,?_⟩
 rw [show (⟨#[47]⟩:ByteArray).data.toList = [47] from rfl,h]
 have ea:(⟨a.data.toList.toArray⟩:ByteArray)=a:=ba_ext (by simp)
 have eb:(⟨b.data.toList.toArray⟩:ByteArray)=b:=ba_ext (by simp)
 simp only [ea,eb]
 exact ⟨[.string a,.string b,.bool r],rfl,_,_,rfl,is_hold (β:=β),_,_,rfl,is_hold (β:=β),_,_,rfl,⟨rfl,rfl⟩,rfl⟩
theorem cut_whole {q:Rat} (h:q.den=1):Lib.cut (bodyB q).data.toList [47]=((decB q.num.natAbs).data.toList,(⟨#[]⟩:ByteArray).data.toList,false):=by
 unfold bodyB Lib.cut
 rw [if_pos h,decB_list,index_none47 (natOf_dec q.num.natAbs).2.1]
 rfl
theorem cut_parts {q:Rat} (h:q.den≠1):Lib.cut (bodyB q).data.toList [47]=((decB q.num.natAbs).data.toList,(decB q.den).data.toList,true):=by
 unfold bodyB Lib.cut
 have e:(decB q.num.natAbs++(⟨#[47]⟩++decB q.den):ByteArray).data.toList=Lib.decDigits q.num.natAbs++47::Lib.decDigits q.den:=by
  rw [ByteArray.toList_data_append,ByteArray.toList_data_append,decB_list,decB_list];rfl
 rw [if_neg h,e,index_at47 (natOf_dec q.num.natAbs).2.1,if_pos (by omega),decB_list,decB_list]
 simp
theorem naturalTextF {n:Nat} (h:(decB n).size≤100000):Fits Tryz.prog 122 [tx (decB n)] (nt n):=by
 intro β w vs hv
 obtain ⟨v,rfl,h1⟩:=args1 hv
 rw [hold_is h1]
 have e:bytesOf (decB n)=Lib.decDigits n:=decB_list n
 refine (naturalText_any (decB n) w h (by rw [e];exact (natOf_dec n).2.1)).mono fun e' w' ⟨u,e1,h1,h2⟩=>⟨u,e1,h2,?_⟩
 rw [e,(natOf_dec n).1] at h1
 exact nt_holds.2 h1
theorem naturalOneF:Fits Tryz.prog 122 [lt ⟨#[49]⟩] (nt 1):=by
 intro β w vs hv
 obtain ⟨v,rfl,h1⟩:=args1 hv
 have e:decB 1=⟨#[49]⟩:=by unfold decB;rw [dec_small (by omega)];rfl
 exact naturalTextF (n:=1) (by rw [e];decide) β w _ ⟨v,[],rfl,by rw [hold_lit h1,← e];exact is_hold,rfl⟩
theorem isOneF {n:Nat} {b:Bool} (h:decide (n=1)=b):Fits Tryz.prog 149 [nt n] (bl b):=by
 intro β w vs hv
 obtain ⟨v,rfl,h1⟩:=args1 hv
 refine (nt_isOne (nt_holds.1 h1)).mono fun e w' ⟨e1,e2⟩=>⟨_,e1,by rw [e2];exact Below.refl _ _,?_⟩
 rw [h]
 exact lit_hold rfl
theorem numberVF {q:Rat} {neg:Bool} (h:decide (q.num<0)=neg):Fits Tryz.prog 123 [frv neg q.num.natAbs q.den] (num q):=by
 rw [← h]
 exact numberF
section
variable {f:FuncId} {w00:World} {Out:Value→World→Prop}
theorem klenL {c:Cfg Kn} (t:Tmp) (s:ByteArray) (hc:(c.op.map fun o=>o.op,c.okT (.fv (.sc (isI s.size))),c.ev (.tmp t))=(some (.call ⟨.builtin .len,#[.tmp t],#[9]⟩),true,lt s))
 (hg:Ok Tryz.prog f w00 Out (runA Tryz.prog 1000 (c.give (.fv (.sc (isI s.size)))))):Ok Tryz.prog f w00 Out c:=by
 simp only [Prod.mk.injEq] at hc
 obtain ⟨h1,h2,h3⟩:=hc
 exact kop2 _ (.tmp t) (.tmp t) (lt s) (lt s) (.fv (.sc (isI s.size))) (by rw [h1,h2,h3]) (by simp [Op.operands,Call.operands]) (by simp [Op.operands,Call.operands])
  (fun ρ o β w ho hx _=>⟨_,len_run ho Tryz.underlying9 (hold_lit hx),is_hold⟩) hg
theorem kgt {c:Cfg Kn} (t:Tmp) (a b:Int) (r:Bool) (h:decide (b<a)=r) (hc:(c.op.map fun o=>o.op,c.okT (bl r),c.ev (.tmp t),c.ev (.const (.int .i64 b)))=(some (.binOp .gtr 3 (.tmp t) (.const (.int .i64 b)) 3),true,.fv (.sc (isI a)),it b))
 (hg:Ok Tryz.prog f w00 Out (runA Tryz.prog 1000 (c.give (bl r)))):Ok Tryz.prog f w00 Out c :=
 kop2 _ (.tmp t) (.const (.int .i64 b)) _ _ (bl r) hc (by simp [Op.operands]) (by simp [Op.operands]) (fun ρ o β w ho hx hy=>⟨_,gt_run ho (hold_is hx) (hold_lit hy) h,lit_hold rfl⟩) hg
theorem kseq {c:Cfg Kn} (t:Tmp) (a b:ByteArray) (r:Bool) (h:(a.toList==b.toList)=r) (hc:(c.op.map fun o=>o.op,c.okT (bl r),c.ev (.tmp t),c.ev (.const (.string b)))=(some (.binOp .eql 9 (.tmp t) (.const (.string b)) 9),true,tx a,lt b))
 (hg:Ok Tryz.prog f w00 Out (runA Tryz.prog 1000 (c.give (bl r)))):Ok Tryz.prog f w00 Out c :=
 kop2 _ (.tmp t) (.const (.string b)) _ _ (bl r) hc (by simp [Op.operands]) (by simp [Op.operands]) (fun ρ o β w ho hx hy=>⟨_,seq_run ho (hold_is hx) (hold_lit hy) h,lit_hold rfl⟩) hg
end
theorem dec_eq_iff {n m:Nat} {b:ByteArray} (hb:decB m=b):((decB n).toList==b.toList)=decide (n=m):=by
 rw [← hb,Go.ByteArray.toList_eq,Go.ByteArray.toList_eq,decB_list,decB_list,Bool.eq_iff_iff]
 simp only [beq_iff_eq,decide_eq_true_eq]
 constructor
 ·intro h
  have:=(natOf_dec n).1
  rw [h,(natOf_dec m).1] at this
  exact this.symm
 ·rintro rfl
  rfl
theorem dec0:decB 0=⟨#[48]⟩:=by unfold decB;rw [dec_small (by omega)];rfl
theorem dec1:decB 1=⟨#[49]⟩:=by unfold decB;rw [dec_small (by omega)];rfl
structure Wr (q:Rat):Prop where
 n:(decB q.num.natAbs).size≤600
 d:(decB q.den).size≤600
theorem lv_of_size {n k:Nat} (h:(decB n).size≤19*2^k):Lv k n:=by
 have e:bytesOf (decB n)=Lib.decDigits n:=decB_list n
 have hd:=natOf_dec n
 refine lv_pow k (decB n).size h ?_
 have:=natOf_lt hd.2.1
 rw [hd.1] at this
 have hl:(decB n).size=(Lib.decDigits n).length:=by rw [← bytesOf_length,e]
 rw [hl]
 exact this
theorem Wr.lf {q:Rat} (h:Wr q):Lf 5 q:=⟨lv_of_size (by have:=h.n;omega),lv_of_size (by have:=h.d;omega)⟩
theorem body_size {q:Rat} (h:Wr q):(bodyB q).size<4294967281:=by
 have h1:=h.n
 have h2:=h.d
 have:(⟨#[47]⟩:ByteArray).size=1:=rfl
 unfold bodyB
 split <;> simp <;> omega
theorem readF {q:Rat} (h:Wr q):FitsW Tryz.prog Gl 74 [tx (writeB q)] (.tup [.ag [nb q],.sc (.lit (.int .i64 0))]):=by
 have g1:decide ((600:Int)<((decB q.num.natAbs).size:Int))=false:=by have:=h.n;simp;omega
 have g2:decide ((600:Int)<((decB q.den).size:Int))=false:=by have:=h.d;simp;omega
 have g3:decide ((600:Int)<(((⟨#[49]⟩:ByteArray).size:Nat):Int))=false:=by decide
 have hsz:=body_size h
 have s1:=h.n
 have s2:=h.d
 by_cases hn:q.num<0
 ·have hneg:decide (q.num<0)=true:=by simpa using hn
  have hz:((decB q.num.natAbs).toList==(⟨#[48]⟩:ByteArray).toList)=false:=by rw [dec_eq_iff dec0,decide_eq_false_iff_not];omega
  by_cases hd:q.den=1
  ·skip
   refine kgoW Tryz.func74 (by kernel_rfl) fun w00 hG=>?_;have hI:=keepGl hG
   refine kcall 119 [tx (writeB q),lt ⟨#[45]⟩] (cutPrefixF hneg) (by kernel_rfl) Tryz.call119 ?_
   refine kcallW hI 146 [tx (bodyB q),lt ⟨#[47]⟩] (cutF (a:=decB q.num.natAbs) (b:=⟨#[]⟩) (r:=false) hsz (cut_whole hd)) (by kernel_rfl) Tryz.call146 ?_
   refine kcall 147 [tx (decB q.num.natAbs)] (isPlainF _) (by kernel_rfl) Tryz.call147 ?_
   refine kseq 31 (decB q.num.natAbs) ⟨#[48]⟩ false hz (by kernel_rfl) ?_
   refine klen 53 (decB q.num.natAbs) (by kernel_rfl) ?_
   refine kgt 54 (decB q.num.natAbs).size 600 false g1 (by kernel_rfl) ?_
   refine klenL 57 ⟨#[49]⟩ (by kernel_rfl) ?_
   refine kgt 58 ((⟨#[49]⟩:ByteArray).size:Nat) 600 false g3 (by kernel_rfl) ?_
   refine kcall 122 [tx (decB q.num.natAbs)] (naturalTextF (by omega)) (by kernel_rfl) Tryz.call122 ?_
   refine kcall 122 [lt ⟨#[49]⟩] (naturalOneF) (by kernel_rfl) Tryz.call122 ?_
   refine kcall 123 [frv true q.num.natAbs 1] ((by rw [← hd];exact numberVF hneg)) (by kernel_rfl) Tryz.call123 ?_
   exact kret Tryz.func74 (by kernel_rfl)
  ·skip
   have y0:((decB q.den).toList==(⟨#[48]⟩:ByteArray).toList)=false:=by rw [dec_eq_iff dec0,decide_eq_false_iff_not];have:=q.den_pos;omega
   have y1:((decB q.den).toList==(⟨#[49]⟩:ByteArray).toList)=false:=by rw [dec_eq_iff dec1];simpa using hd
   refine kgoW Tryz.func74 (by kernel_rfl) fun w00 hG=>?_;have hI:=keepGl hG
   refine kcall 119 [tx (writeB q),lt ⟨#[45]⟩] (cutPrefixF hneg) (by kernel_rfl) Tryz.call119 ?_
   refine kcallW hI 146 [tx (bodyB q),lt ⟨#[47]⟩] (cutF (a:=decB q.num.natAbs) (b:=decB q.den) (r:=true) hsz (cut_parts hd)) (by kernel_rfl) Tryz.call146 ?_
   refine kcall 147 [tx (decB q.num.natAbs)] (isPlainF _) (by kernel_rfl) Tryz.call147 ?_
   refine kseq 31 (decB q.num.natAbs) ⟨#[48]⟩ false hz (by kernel_rfl) ?_
   refine kcall 147 [tx (decB q.den)] (isPlainF _) (by kernel_rfl) Tryz.call147 ?_
   refine kseq 43 (decB q.den) ⟨#[48]⟩ false y0 (by kernel_rfl) ?_
   refine kseq 47 (decB q.den) ⟨#[49]⟩ false y1 (by kernel_rfl) ?_
   refine klen 53 (decB q.num.natAbs) (by kernel_rfl) ?_
   refine kgt 54 (decB q.num.natAbs).size 600 false g1 (by kernel_rfl) ?_
   refine klen 57 (decB q.den) (by kernel_rfl) ?_
   refine kgt 58 (decB q.den).size 600 false g2 (by kernel_rfl) ?_
   refine kcall 122 [tx (decB q.num.natAbs)] (naturalTextF (by omega)) (by kernel_rfl) Tryz.call122 ?_
   refine kcall 122 [tx (decB q.den)] (naturalTextF (by omega)) (by kernel_rfl) Tryz.call122 ?_
   refine kcall 148 [nt q.num.natAbs,nt q.den] (gcdF (h.lf.1.mono (by decide)) (h.lf.2.mono (by decide)) (.inr q.den_pos)) (by kernel_rfl) Tryz.call148 ?_
   refine kcall 149 [nt (Nat.gcd q.num.natAbs q.den)] (isOneF (b:=true) (by rw [decide_eq_true_eq];exact q.reduced)) (by kernel_rfl) Tryz.call149 ?_
   refine kcall 123 [frv true q.num.natAbs q.den] (numberVF hneg) (by kernel_rfl) Tryz.call123 ?_
   exact kret Tryz.func74 (by kernel_rfl)
 ·have hneg:decide (q.num<0)=false:=by simpa using hn
  by_cases hd:q.den=1
  ·skip
   refine kgoW Tryz.func74 (by kernel_rfl) fun w00 hG=>?_;have hI:=keepGl hG
   refine kcall 119 [tx (writeB q),lt ⟨#[45]⟩] (cutPrefixF hneg) (by kernel_rfl) Tryz.call119 ?_
   refine kcallW hI 146 [tx (bodyB q),lt ⟨#[47]⟩] (cutF (a:=decB q.num.natAbs) (b:=⟨#[]⟩) (r:=false) hsz (cut_whole hd)) (by kernel_rfl) Tryz.call146 ?_
   refine kcall 147 [tx (decB q.num.natAbs)] (isPlainF _) (by kernel_rfl) Tryz.call147 ?_
   refine klen 53 (decB q.num.natAbs) (by kernel_rfl) ?_
   refine kgt 54 (decB q.num.natAbs).size 600 false g1 (by kernel_rfl) ?_
   refine klenL 57 ⟨#[49]⟩ (by kernel_rfl) ?_
   refine kgt 58 ((⟨#[49]⟩:ByteArray).size:Nat) 600 false g3 (by kernel_rfl) ?_
   refine kcall 122 [tx (decB q.num.natAbs)] (naturalTextF (by omega)) (by kernel_rfl) Tryz.call122 ?_
   refine kcall 122 [lt ⟨#[49]⟩] (naturalOneF) (by kernel_rfl) Tryz.call122 ?_
   refine kcall 123 [frv false q.num.natAbs 1] ((by rw [← hd];exact numberVF hneg)) (by kernel_rfl) Tryz.call123 ?_
   exact kret Tryz.func74 (by kernel_rfl)
  ·skip
   have y0:((decB q.den).toList==(⟨#[48]⟩:ByteArray).toList)=false:=by rw [dec_eq_iff dec0,decide_eq_false_iff_not];have:=q.den_pos;omega
   have y1:((decB q.den).toList==(⟨#[49]⟩:ByteArray).toList)=false:=by rw [dec_eq_iff dec1];simpa using hd
   refine kgoW Tryz.func74 (by kernel_rfl) fun w00 hG=>?_;have hI:=keepGl hG
   refine kcall 119 [tx (writeB q),lt ⟨#[45]⟩] (cutPrefixF hneg) (by kernel_rfl) Tryz.call119 ?_
   refine kcallW hI 146 [tx (bodyB q),lt ⟨#[47]⟩] (cutF (a:=decB q.num.natAbs) (b:=decB q.den) (r:=true) hsz (cut_parts hd)) (by kernel_rfl) Tryz.call146 ?_
   refine kcall 147 [tx (decB q.num.natAbs)] (isPlainF _) (by kernel_rfl) Tryz.call147 ?_
   refine kcall 147 [tx (decB q.den)] (isPlainF _) (by kernel_rfl) Tryz.call147 ?_
   refine kseq 43 (decB q.den) ⟨#[48]⟩ false y0 (by kernel_rfl) ?_
   refine kseq 47 (decB q.den) ⟨#[49]⟩ false y1 (by kernel_rfl) ?_
   refine klen 53 (decB q.num.natAbs) (by kernel_rfl) ?_
   refine kgt 54 (decB q.num.natAbs).size 600 false g1 (by kernel_rfl) ?_
   refine klen 57 (decB q.den) (by kernel_rfl) ?_
   refine kgt 58 (decB q.den).size 600 false g2 (by kernel_rfl) ?_
   refine kcall 122 [tx (decB q.num.natAbs)] (naturalTextF (by omega)) (by kernel_rfl) Tryz.call122 ?_
   refine kcall 122 [tx (decB q.den)] (naturalTextF (by omega)) (by kernel_rfl) Tryz.call122 ?_
   refine kcall 148 [nt q.num.natAbs,nt q.den] (gcdF (h.lf.1.mono (by decide)) (h.lf.2.mono (by decide)) (.inr q.den_pos)) (by kernel_rfl) Tryz.call148 ?_
   refine kcall 149 [nt (Nat.gcd q.num.natAbs q.den)] (isOneF (b:=true) (by rw [decide_eq_true_eq];exact q.reduced)) (by kernel_rfl) Tryz.call149 ?_
   refine kcall 123 [frv false q.num.natAbs q.den] (numberVF hneg) (by kernel_rfl) Tryz.call123 ?_
   exact kret Tryz.func74 (by kernel_rfl)
abbrev z0:Seg Kn := .lit (.int .i64 0)
theorem first2F {T:TypeId}:Fits Tryz.prog 79 [.fv (.nsl 2 T [z0,z0])] (it 0):=by
 refine kgoS Tryz.func79 (by kernel_rfl) fun w00=>?_
 exact kret Tryz.func79 (by kernel_rfl)
theorem first3F {T:TypeId}:Fits Tryz.prog 79 [.fv (.nsl 3 T [z0,z0,z0])] (it 0):=by
 refine kgoS Tryz.func79 (by kernel_rfl) fun w00=>?_
 exact kret Tryz.func79 (by kernel_rfl)
theorem first4F {T:TypeId}:Fits Tryz.prog 79 [.fv (.nsl 4 T [z0,z0,z0,z0])] (it 0):=by
 refine kgoS Tryz.func79 (by kernel_rfl) fun w00=>?_
 exact kret Tryz.func79 (by kernel_rfl)
abbrev vS (a b c:Rat):AV Kn := .fv (.ag [isS (writeB a),isS (writeB b),isS (writeB c)])
abbrev okV (a b c:Rat):AV Kn := .tup [.ag [nb a,nb b,nb c],.sc z0]
abbrev Wr3 (a b c:Rat):Prop:=Wr a∧Wr b∧Wr c
theorem readVecF {a b c:Rat} (h:Wr3 a b c):FitsW Tryz.prog Gl 60 [vS a b c] (okV a b c):=by
 refine kgoW Tryz.func60 (by kernel_rfl) fun w00 hG=>?_;have hI:=keepGl hG
 refine kcallW hI 74 [tx (writeB a)] (readF h.1) (by kernel_rfl) Tryz.call74 ?_
 refine kcallW hI 74 [tx (writeB b)] (readF h.2.1) (by kernel_rfl) Tryz.call74 ?_
 refine kcallW hI 74 [tx (writeB c)] (readF h.2.2) (by kernel_rfl) Tryz.call74 ?_
 refine kcallS 79 3 3 169 [z0,z0,z0] (first3F) (by kernel_rfl) Tryz.call79 ?_
 exact kret Tryz.func60 (by kernel_rfl)
theorem writeVecF {a b c:Rat} (h:Wr3 a b c) (ha:Lf 20 a) (hb:Lf 20 b) (hc:Lf 20 c):FitsW Tryz.prog Gl 76 [vc a b c] (.tup [.ag [isS (writeB a),isS (writeB b),isS (writeB c)],.sc z0]):=by
 refine kgoW Tryz.func76 (by kernel_rfl) fun w00 hG=>?_;have hI:=keepGl hG
 refine kcallW hI 62 [num a] (writeF ha h.1.n h.1.d) (by kernel_rfl) Tryz.call62 ?_
 refine kcallW hI 62 [num b] (writeF hb h.2.1.n h.2.1.d) (by kernel_rfl) Tryz.call62 ?_
 refine kcallW hI 62 [num c] (writeF hc h.2.2.n h.2.2.d) (by kernel_rfl) Tryz.call62 ?_
 exact kret Tryz.func76 (by kernel_rfl)
section
variable {a b c x y z u v d e:Rat}
theorem readRV (h:Wr a) (k:Wr3 x y z):FitsW Tryz.prog Gl 73 [fnv 74,tx (writeB a),fnv 60,vS x y z] (.tup [.ag [nb a],.ag [nb x,nb y,nb z],.sc z0]):=by
 refine kgoW Tryz.func73 (by kernel_rfl) fun w00 hG=>?_;have hI:=keepGl hG
 refine kcallW hI 74 [tx (writeB a)] (readF h) (by kernel_rfl) Tryz.call74 ?_
 refine kcallW hI 60 [vS x y z] (readVecF k) (by kernel_rfl) Tryz.call60 ?_
 refine kcall 79 [.fv (.nsl 2 28 [z0,z0])] (first2F) (by kernel_rfl) Tryz.call79 ?_
 exact kret Tryz.func73 (by kernel_rfl)
theorem readVV (h:Wr3 a b c) (k:Wr3 x y z):FitsW Tryz.prog Gl 59 [fnv 60,vS a b c,fnv 60,vS x y z] (.tup [.ag [nb a,nb b,nb c],.ag [nb x,nb y,nb z],.sc z0]):=by
 refine kgoW Tryz.func59 (by kernel_rfl) fun w00 hG=>?_;have hI:=keepGl hG
 refine kcallW hI 60 [vS a b c] (readVecF h) (by kernel_rfl) Tryz.call60 ?_
 refine kcallW hI 60 [vS x y z] (readVecF k) (by kernel_rfl) Tryz.call60 ?_
 refine kcall 79 [.fv (.nsl 2 28 [z0,z0])] (first2F) (by kernel_rfl) Tryz.call79 ?_
 exact kret Tryz.func59 (by kernel_rfl)
theorem readVR (h:Wr3 a b c) (k:Wr d):FitsW Tryz.prog Gl 124 [fnv 60,vS a b c,fnv 74,tx (writeB d)] (.tup [.ag [nb a,nb b,nb c],.ag [nb d],.sc z0]):=by
 refine kgoW Tryz.func124 (by kernel_rfl) fun w00 hG=>?_;have hI:=keepGl hG
 refine kcallW hI 60 [vS a b c] (readVecF h) (by kernel_rfl) Tryz.call60 ?_
 refine kcallW hI 74 [tx (writeB d)] (readF k) (by kernel_rfl) Tryz.call74 ?_
 refine kcall 79 [.fv (.nsl 2 28 [z0,z0])] (first2F) (by kernel_rfl) Tryz.call79 ?_
 exact kret Tryz.func124 (by kernel_rfl)
abbrev okS (q:Rat):AV Kn := .tup [.sc (isS (writeB q)),.sc z0]
abbrev okVS (a b c:Rat):AV Kn := .tup [.ag [isS (writeB a),isS (writeB b),isS (writeB c)],.sc z0]
theorem apiAlongF (h:Wr3 a b c) (k:Wr3 x y z) (h0:(decide (a=0)&&decide (b=0)&&decide (c=0))=false) (hc:(decide (b*z-c*y=0)&&decide (c*x-a*z=0)&&decide (a*y-b*x=0))=true)
 (hs:dt a b c a b c≠0) (hr:Wr (dt x y z a b c/dt a b c a b c)):FitsW Tryz.prog Gl 22 [vS a b c,vS x y z] (okS (dt x y z a b c/dt a b c a b c)):=by
 have l1:=h.1.lf
 have l2:=h.2.1.lf
 have l3:=h.2.2.lf
 have m1:=k.1.lf
 have m2:=k.2.1.lf
 have m3:=k.2.2.lf
 refine kgoW Tryz.func22 (by kernel_rfl) fun w00 hG=>?_;have hI:=keepGl hG
 refine kcallW hI 59 [fnv 60,vS a b c,fnv 60,vS x y z] (readVV h k) (by kernel_rfl) Tryz.call59 ?_
 refine kcall 77 [vc a b c] (vIsZeroF h0) (by kernel_rfl) Tryz.call77 ?_
 refine kcall 58 [vc a b c,vc x y z] (crossF (l1.mono (by decide)) (l2.mono (by decide)) (l3.mono (by decide)) (m1.mono (by decide)) (m2.mono (by decide)) (m3.mono (by decide))) (by kernel_rfl) Tryz.call58 ?_
 refine kcall 77 [vc (b*z-c*y) (c*x-a*z) (a*y-b*x)] (vIsZeroF hc) (by kernel_rfl) Tryz.call77 ?_
 refine kcall 61 [vc x y z,vc a b c] (dotF (m1.mono (by decide)) (m2.mono (by decide)) (m3.mono (by decide)) (l1.mono (by decide)) (l2.mono (by decide)) (l3.mono (by decide))) (by kernel_rfl) Tryz.call61 ?_
 refine kcall 63 [vc a b c] (squareF (l1.mono (by decide)) (l2.mono (by decide)) (l3.mono (by decide))) (by kernel_rfl) Tryz.call63 ?_
 refine kcall 78 [num (dt x y z a b c),num (dt a b c a b c)] (overF (lf_dt (n:=38) (m1.mono (by decide)) (m2.mono (by decide)) (m3.mono (by decide)) (l1.mono (by decide)) (l2.mono (by decide)) (l3.mono (by decide)) (by decide)) (lf_dt (n:=38) (l1.mono (by decide)) (l2.mono (by decide)) (l3.mono (by decide)) (l1.mono (by decide)) (l2.mono (by decide)) (l3.mono (by decide)) (by decide)) hs) (by kernel_rfl) Tryz.call78 ?_
 refine kcallW hI 62 [num (dt x y z a b c/dt a b c a b c)] (writeF (hr.lf.mono (by decide)) hr.n hr.d) (by kernel_rfl) Tryz.call62 ?_
 exact kret Tryz.func22 (by kernel_rfl)
end
end Go.Proofs.YtbkfbobdmojgnaaGreatDoor.Ab
