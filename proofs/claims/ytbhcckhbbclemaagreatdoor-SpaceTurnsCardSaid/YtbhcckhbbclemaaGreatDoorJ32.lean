/- Parts of the proof, joined. -/
import Derived.Test.YtbhcckhbbclemaaGreatDoorJ26
import Derived.Test.YtbhcckhbbclemaaGreatDoorJ31
set_option linter.unusedSimpArgs false
set_option linter.unusedVariables false
namespace Go.Proofs.YtbhcckhbbclemaaGreatDoor
open Go.RowKit Pl
def ParseNext (w:World) (r r' : ByteArray) (ws:List Nat):Prop :=
 Dig B9 ws∧AllDig (bytesOf r')∧natOf (bytesOf r)=val B9 ws+B9^ws.length*natOf (bytesOf r')∧r'.size+9*ws.length=r.size
def ParseAt (w:World) (r:ByteArray) (dv wv:Value) (wr:World):Prop :=
 ∃ (r' : ByteArray) (ws:List Nat),dv = .string r'∧wr.ownsRow (w.heap.size+1) 3 1 wv ws.length (ws.map cellI)∧Dig B9 ws∧AllDig (bytesOf r')∧natOf (bytesOf r)=val B9 ws+B9^ws.length*natOf (bytesOf r')∧r'.size+9*ws.length=r.size ∧
   Below w.heap.size w wr∧wr.heap[w.heap.size]?=some (.cells #[.bool false,.slice none 0 0] 94 (0,0))∧w.heap.size<wr.heap.size
set_option maxHeartbeats 2000000 in
set_option maxRecDepth 100000 in
theorem parse_plain (r:ByteArray) (w:World) (hd:AllDig (bytesOf r)) (h0:0<r.size) (hs:r.size≤100000):Calls Tryz.prog 115 #[.string r] w fun e w' => ∃ v,e = .returned v∧In w' v (sgz false (natOf (bytesOf r)))∧Below w.heap.size w w':=by
 have HD:=Lib.hid (And.intro hd hs)
 have k0:(0:Int)<r.size:=by omega
 obtain ⟨c,hc⟩:∃ c:Nat,(r[0]'h0).toNat=c:=⟨_,rfl⟩
 have k45:((c:Int)==45)=false:=by
  have:=hd _ (List.mem_of_getElem? (bytes_get h0))
  rw [hc] at this
  simp;omega
 clear hd hs
 go_enter Tryz.func115,Tryz.ntmps115
 go_wp2
 clear hc k45
 go_loopw [0,4] (fun dv wv wr=>ParseAt w r dv wv wr) (fun dv _ _=>sizeOfS dv)
 case atStart=>exact ⟨r,[],rfl,⟨rfl,.inl ⟨rfl,rfl⟩⟩,Dig.nil _,HD.out.1,by simp [val],by simp,(Below.refl _ _).alloc (Nat.le_refl _) _,heap_alloc_new w _,by simp⟩
 case round =>
  obtain ⟨r',ws,rfl,hrow,hdw,hd',hval,hsz,hb,hh,hs⟩:=hrel
  have hr1:r'.size≤100000:=by have:=HD.out.2;omega
  have hw1:ws.length≤100000:=by have:=HD.out.2;omega
  by_cases h9:9<r'.size
  ·have k1:(9:Int)<r'.size:=by omega
   have k2:(r'.size:Int)≤100000:=by omega
   have hlt:natOf (bytesOf (r'.extract (r'.size-9) r'.size))<B9:=by
    have e1:bytesOf (r'.extract (r'.size-9) r'.size)=(bytesOf r').drop (r'.size-9):=by rw [bytesOf_extract,List.take_of_length_le (by rw [bytesOf_length];exact Nat.le_refl _)]
    rw [e1]
    have h1:=natOf_lt (hd'.drop (r'.size-9))
    rw [List.length_drop,bytesOf_length,show r'.size-(r'.size-9)=9 by omega] at h1
    exact h1
   have hnat:natOf (bytesOf r')=natOf (bytesOf (r'.extract 0 (r'.size-9)))*B9+natOf (bytesOf (r'.extract (r'.size-9) r'.size)):=by
    have e1:bytesOf (r'.extract (r'.size-9) r'.size)=(bytesOf r').drop (r'.size-9):=by rw [bytesOf_extract,List.take_of_length_le (by rw [bytesOf_length];exact Nat.le_refl _)]
    have e2:bytesOf (r'.extract 0 (r'.size-9))=(bytesOf r').take (r'.size-9):=by rw [bytesOf_extract,List.drop_zero]
    rw [e1,e2]
    conv=>lhs;rw [← List.take_append_drop (r'.size-9) (bytesOf r'),natOf_append]
    rw [List.length_drop,bytesOf_length,show r'.size-(r'.size-9)=9 by omega]
    rfl
   have cv:=Lib.hid (fun W=>value_any (r'.extract (r'.size-9) r'.size) W (by rw [bytesOf_extract];exact (hd'.take _).drop _) (by simp;omega))
   obtain ⟨x,hx⟩:∃ x,x=natOf (bytesOf (r'.extract (r'.size-9) r'.size)):=⟨_,rfl⟩
   rw [← hx] at cv hlt hnat
   have hnext:ParseNext w r (r'.extract 0 (r'.size-9)) (ws ++ [x]):=by
    refine ⟨hdw.app (Dig.cons hlt (Dig.nil _)),by rw [bytesOf_extract,List.drop_zero];exact hd'.take _,?_,?_⟩
    ·rw [val_snoc,List.length_append,List.length_singleton,Nat.pow_succ,hval,hnat]
     generalize natOf (bytesOf (r'.extract 0 (r'.size-9)))=m
     generalize B9^ws.length=P
     generalize B9=V
     grind
    ·rw [List.length_append,List.length_singleton];simp;omega
   have HE:=Lib.hid (And.intro hrow (And.intro hnext (And.intro hb (And.intro hh (And.intro hs (by omega:ws.length≤2199023255999))))))
   clear hrow hnext hb hh hs hdw hd' hval hsz hlt hnat hx hw1 hr1
   go_wp2_with fail
   refine (cv.out _).mono ?_
   rintro e w' ⟨rfl,rfl⟩
   go_wp2_with (at_builtin;refine wpList_app (r:=x) (B:=w.heap.size) rfl _ _ rfl rfl HE.out.1 rfl HE.out.2.2.2.2.2 HE.out.2.2.1 (Nat.le_succ _) HE.out.2.2.2.2.1 ?_)
   intro v' w3 hr3 hbw hg3
   have hr3' : w3.ownsRow (w.heap.size+1) 3 1 v' (ws ++ [x]).length ((ws ++ [x]).map cellI):=by
    rw [List.length_append,List.length_singleton,List.map_append];exact hr3
   have hh3:w3.heap[w.heap.size]?=some (.cells #[.bool false,.slice none 0 0] 94 (0,0)):=by
    have h2:=(Below.heap_alloc w' (.cells #[.int .i64 (x:Int)] 3) _ HE.out.2.2.2.2.1).trans HE.out.2.2.2.1
    refine grown_block hg3 h2 ?_
    intro he
    have:=row_own' HE.out.1 _ he.symm
    omega
   have hs3:w.heap.size<w3.heap.size:=by have:=hg3.size;have:=HE.out.2.2.2.2.1;simp at *;omega
   have HX:=Lib.hid (And.intro hr3' (And.intro hbw (And.intro hh3 hs3)))
   clear hr3 hr3' hbw hg3 hh3 hs3
   go_wp2
   go_roundw
   case rel =>
    obtain ⟨h1,h2,h3,h4⟩:=HE.out.2.1
    exact ⟨_,ws ++ [x],rfl,HX.out.1,h1,h2,h3,h4,HX.out.2.1,HX.out.2.2.1,HX.out.2.2.2⟩
   case measure =>
    clear HX HE
    simp [sizeOfS];omega
  ·have k1:¬ (9:Int)<r'.size:=by omega
   have cv:=Lib.hid (fun W=>value_any r' W hd' (by omega))
   have hlt:natOf (bytesOf r')<B9:=by
    have h1:=natOf_lt hd'
    rw [bytesOf_length] at h1
    refine Nat.lt_of_lt_of_le h1 ?_
    have:10^r'.size≤10^9:=Nat.pow_le_pow_right (by omega) (by omega)
    exact this
   obtain ⟨x,hx⟩:∃ x,x=natOf (bytesOf r'):=⟨_,rfl⟩
   rw [← hx] at cv hlt hval
   have hfin:sgz false (val B9 (ws ++ [x]))=sgz false (natOf (bytesOf r)):=by rw [val_snoc,hval]
   have HE:=Lib.hid (And.intro hrow (And.intro hfin (And.intro hb (And.intro hh (And.intro hs (And.intro (by omega:ws.length≤2199023255999) (hdw.app (Dig.cons hlt (Dig.nil _)))))))))
   clear hrow hfin hb hh hs hdw hd' hval hsz hlt hx hw1 hr1 h9
   go_wp2_with fail
   refine (cv.out _).mono ?_
   rintro e w' ⟨rfl,rfl⟩
   go_wp2_with (at_builtin;refine wpList_app (r:=x) (B:=w.heap.size) rfl _ _ rfl rfl HE.out.1 rfl HE.out.2.2.2.2.2.1 HE.out.2.2.1 (Nat.le_succ _) HE.out.2.2.2.2.1 ?_)
   intro v' w3 hr3 hbw hg3
   have hr3' : w3.ownsRow (w.heap.size+1) 3 1 v' (ws.length+1) ((ws ++ [x]).map cellI):=by
    rw [List.map_append];exact hr3
   obtain ⟨A3,c3,rfl,hri⟩:=row_ri' hr3'
   have hh3:w3.heap[w.heap.size]?=some (.cells #[.bool false,.slice none 0 0] 94 (0,0)):=by
    have h2:=(Below.heap_alloc w' (.cells #[.int .i64 (x:Int)] 3) _ HE.out.2.2.2.2.1).trans HE.out.2.2.2.1
    refine grown_block hg3 h2 ?_
    intro he
    have:=row_own' HE.out.1 _ he.symm
    omega
   have hs3:w.heap.size<w3.heap.size:=by have:=hg3.size;have:=HE.out.2.2.2.2.1;simp at *;omega
   have HX:=Lib.hid (And.intro hri (And.intro hbw (And.intro hh3 hs3)))
   clear hr3 hr3' hbw hg3 hh3 hs3 hri
   go_wp2_with fail
   refine (signed_any false A3 _ c3 (ws ++ [x]) _ HX.out.1 HE.out.2.2.2.2.2.2).mono ?_
   rintro e w2 ⟨v,rfl,q,b⟩
   rw [HE.out.2.1] at q
   have hh2:w2.heap[w.heap.size]?=some (.cells #[.bool false,.slice none 0 0] 94 (0,0)):=(b.block _ HX.out.2.2.2).trans HX.out.2.2.1
   have hb2:Below w.heap.size w w2:=HX.out.2.1.trans (b.mono (Nat.le_of_lt HX.out.2.2.2))
   obtain ⟨A',n',c',xs',rfl,q'⟩:=id q
   have Q:=Lib.hid (And.intro q (And.intro hh2 hb2))
   clear q q' b hh2 hb2
   obtain ⟨⟨b0,b1⟩,f0,f1⟩:=blk2i Q.out.2.1
   go_wp2
   obtain ⟨q,hh2,hb2⟩:=Q.out
   obtain ⟨⟨g0,g1⟩,_⟩:=blk2i (set2_heap hh2 (x := .bool (decide (sgz false (natOf (bytesOf r))<0))) (y := .slice A' n' c'))
   refine bodyPost_ret (v := .agg #[.bool (decide (sgz false (natOf (bytesOf r))<0)),.slice A' n' c']) (by simp [results,Tryz.results115,go_sem,g0,g1]) rfl ⟨_,rfl,q.set2 hh2 (fun n h=>by cases h) (fun n h=>by cases h),?_⟩
   exact (hb2.setCell (p:=⟨w.heap.size,0,none⟩) (Nat.le_refl _) _).setCell (p:=⟨w.heap.size,1,none⟩) (Nat.le_refl _) _
set_option maxHeartbeats 2000000 in
set_option maxRecDepth 100000 in
theorem parse_minus (r : ByteArray) (w : World) (hd:AllDig (bytesOf r)) (hs:r.size≤100000):Calls Tryz.prog 115 #[.string (⟨#[45]⟩++r)] w fun e w' => ∃ v,e = .returned v∧In w' v (sgz true (natOf (bytesOf r)))∧Below w.heap.size w w':=by
 have HD:=Lib.hid (And.intro hd hs)
 obtain ⟨s,hs'⟩:∃ s,s=(⟨#[45]⟩++r:ByteArray):=⟨_,rfl⟩
 have hsz : s.size = r.size + 1 := by rw [hs',ByteArray.size_append];have:(⟨#[45]⟩:ByteArray).size=1:=rfl
                                      omega
 have h0:0<s.size:=by omega
 have k0:(0:Int)<s.size:=by omega
 have k1:(s.size:Int)≤100001:=by omega
 have hbs:bytesOf s=45::bytesOf r:=by rw [hs'];simp [bytesOf]
 have hc:(s[0]'h0).toNat=45:=by
  have h1:=bytes_get h0
  rw [hbs] at h1
  simp at h1
  rw [← h1];rfl
 have hext:s.extract 1 (r.size+1)=r:=by
  subst hs'
  apply Ab.ba_ext
  simp [hsz]
  exact List.take_of_length_le (Nat.le_of_eq rfl)
 rw [← hs']
 clear hd hs hs' hbs
 go_enter Tryz.func115,Tryz.ntmps115
 go_wp2
 try rw [hext]
 clear hc hext
 go_loopw [0,4] (fun dv wv wr=>ParseAt w r dv wv wr) (fun dv _ _=>sizeOfS dv)
 case atStart=>exact ⟨r,[],rfl,⟨rfl,.inl ⟨rfl,rfl⟩⟩,Dig.nil _,HD.out.1,by simp [val],by simp,(Below.refl _ _).alloc (Nat.le_refl _) _,heap_alloc_new w _,by simp⟩
 case round =>
  obtain ⟨r',ws,rfl,hrow,hdw,hd',hval,hsz,hb,hh,hs⟩:=hrel
  have hr1:r'.size≤100000:=by have:=HD.out.2;omega
  have hw1:ws.length≤100000:=by have:=HD.out.2;omega
  by_cases h9:9<r'.size
  ·have k1:(9:Int)<r'.size:=by omega
   have k2:(r'.size:Int)≤100000:=by omega
   have hlt:natOf (bytesOf (r'.extract (r'.size-9) r'.size))<B9:=by
    have e1:bytesOf (r'.extract (r'.size-9) r'.size)=(bytesOf r').drop (r'.size-9):=by rw [bytesOf_extract,List.take_of_length_le (by rw [bytesOf_length];exact Nat.le_refl _)]
    rw [e1]
    have h1:=natOf_lt (hd'.drop (r'.size-9))
    rw [List.length_drop,bytesOf_length,show r'.size-(r'.size-9)=9 by omega] at h1
    exact h1
   have hnat:natOf (bytesOf r')=natOf (bytesOf (r'.extract 0 (r'.size-9)))*B9+natOf (bytesOf (r'.extract (r'.size-9) r'.size)):=by
    have e1:bytesOf (r'.extract (r'.size-9) r'.size)=(bytesOf r').drop (r'.size-9):=by rw [bytesOf_extract,List.take_of_length_le (by rw [bytesOf_length];exact Nat.le_refl _)]
    have e2:bytesOf (r'.extract 0 (r'.size-9))=(bytesOf r').take (r'.size-9):=by rw [bytesOf_extract,List.drop_zero]
    rw [e1,e2]
    conv=>lhs;rw [← List.take_append_drop (r'.size-9) (bytesOf r'),natOf_append]
    rw [List.length_drop,bytesOf_length,show r'.size-(r'.size-9)=9 by omega]
    rfl
   have cv:=Lib.hid (fun W=>value_any (r'.extract (r'.size-9) r'.size) W (by rw [bytesOf_extract];exact (hd'.take _).drop _) (by simp;omega))
   obtain ⟨x,hx⟩:∃ x,x=natOf (bytesOf (r'.extract (r'.size-9) r'.size)):=⟨_,rfl⟩
   rw [← hx] at cv hlt hnat
   have hnext:ParseNext w r (r'.extract 0 (r'.size-9)) (ws ++ [x]):=by
    refine ⟨hdw.app (Dig.cons hlt (Dig.nil _)),by rw [bytesOf_extract,List.drop_zero];exact hd'.take _,?_,?_⟩
    ·rw [val_snoc,List.length_append,List.length_singleton,Nat.pow_succ,hval,hnat]
     generalize natOf (bytesOf (r'.extract 0 (r'.size-9)))=m
     generalize B9^ws.length=P
     generalize B9=V
     grind
    ·rw [List.length_append,List.length_singleton];simp;omega
   have HE:=Lib.hid (And.intro hrow (And.intro hnext (And.intro hb (And.intro hh (And.intro hs (by omega:ws.length≤2199023255999))))))
   clear hrow hnext hb hh hs hdw hd' hval hsz hlt hnat hx hw1 hr1
   go_wp2_with fail
   refine (cv.out _).mono ?_
   rintro e w' ⟨rfl,rfl⟩
   go_wp2_with (at_builtin;refine wpList_app (r:=x) (B:=w.heap.size) rfl _ _ rfl rfl HE.out.1 rfl HE.out.2.2.2.2.2 HE.out.2.2.1 (Nat.le_succ _) HE.out.2.2.2.2.1 ?_)
   intro v' w3 hr3 hbw hg3
   have hr3' : w3.ownsRow (w.heap.size+1) 3 1 v' (ws ++ [x]).length ((ws ++ [x]).map cellI):=by
    rw [List.length_append,List.length_singleton,List.map_append];exact hr3
   have hh3:w3.heap[w.heap.size]?=some (.cells #[.bool false,.slice none 0 0] 94 (0,0)):=by
    have h2:=(Below.heap_alloc w' (.cells #[.int .i64 (x:Int)] 3) _ HE.out.2.2.2.2.1).trans HE.out.2.2.2.1
    refine grown_block hg3 h2 ?_
    intro he
    have:=row_own' HE.out.1 _ he.symm
    omega
   have hs3:w.heap.size<w3.heap.size:=by have:=hg3.size;have:=HE.out.2.2.2.2.1;simp at *;omega
   have HX:=Lib.hid (And.intro hr3' (And.intro hbw (And.intro hh3 hs3)))
   clear hr3 hr3' hbw hg3 hh3 hs3
   go_wp2
   go_roundw
   case rel =>
    obtain ⟨h1,h2,h3,h4⟩:=HE.out.2.1
    exact ⟨_,ws ++ [x],rfl,HX.out.1,h1,h2,h3,h4,HX.out.2.1,HX.out.2.2.1,HX.out.2.2.2⟩
   case measure =>
    clear HX HE
    simp [sizeOfS];omega
  ·have k1:¬ (9:Int)<r'.size:=by omega
   have cv:=Lib.hid (fun W=>value_any r' W hd' (by omega))
   have hlt:natOf (bytesOf r')<B9:=by
    have h1:=natOf_lt hd'
    rw [bytesOf_length] at h1
    refine Nat.lt_of_lt_of_le h1 ?_
    have:10^r'.size≤10^9:=Nat.pow_le_pow_right (by omega) (by omega)
    exact this
   obtain ⟨x,hx⟩:∃ x,x=natOf (bytesOf r'):=⟨_,rfl⟩
   rw [← hx] at cv hlt hval
   have hfin:sgz true (val B9 (ws ++ [x]))=sgz true (natOf (bytesOf r)):=by rw [val_snoc,hval]
   have HE:=Lib.hid (And.intro hrow (And.intro hfin (And.intro hb (And.intro hh (And.intro hs (And.intro (by omega:ws.length≤2199023255999) (hdw.app (Dig.cons hlt (Dig.nil _)))))))))
   clear hrow hfin hb hh hs hdw hd' hval hsz hlt hx hw1 hr1 h9
   go_wp2_with fail
   refine (cv.out _).mono ?_
   rintro e w' ⟨rfl,rfl⟩
   go_wp2_with (at_builtin;refine wpList_app (r:=x) (B:=w.heap.size) rfl _ _ rfl rfl HE.out.1 rfl HE.out.2.2.2.2.2.1 HE.out.2.2.1 (Nat.le_succ _) HE.out.2.2.2.2.1 ?_)
   intro v' w3 hr3 hbw hg3
   have hr3' : w3.ownsRow (w.heap.size+1) 3 1 v' (ws.length+1) ((ws ++ [x]).map cellI):=by
    rw [List.map_append];exact hr3
   obtain ⟨A3,c3,rfl,hri⟩:=row_ri' hr3'
   have hh3:w3.heap[w.heap.size]?=some (.cells #[.bool false,.slice none 0 0] 94 (0,0)):=by
    have h2:=(Below.heap_alloc w' (.cells #[.int .i64 (x:Int)] 3) _ HE.out.2.2.2.2.1).trans HE.out.2.2.2.1
    refine grown_block hg3 h2 ?_
    intro he
    have:=row_own' HE.out.1 _ he.symm
    omega
   have hs3:w.heap.size<w3.heap.size:=by have:=hg3.size;have:=HE.out.2.2.2.2.1;simp at *;omega
   have HX:=Lib.hid (And.intro hri (And.intro hbw (And.intro hh3 hs3)))
   clear hr3 hr3' hbw hg3 hh3 hs3 hri
   go_wp2_with fail
   refine (signed_any true A3 _ c3 (ws ++ [x]) _ HX.out.1 HE.out.2.2.2.2.2.2).mono ?_
   rintro e w2 ⟨v,rfl,q,b⟩
   rw [HE.out.2.1] at q
   have hh2:w2.heap[w.heap.size]?=some (.cells #[.bool false,.slice none 0 0] 94 (0,0)):=(b.block _ HX.out.2.2.2).trans HX.out.2.2.1
   have hb2:Below w.heap.size w w2:=HX.out.2.1.trans (b.mono (Nat.le_of_lt HX.out.2.2.2))
   obtain ⟨A',n',c',xs',rfl,q'⟩:=id q
   have Q:=Lib.hid (And.intro q (And.intro hh2 hb2))
   clear q q' b hh2 hb2
   obtain ⟨⟨b0,b1⟩,f0,f1⟩:=blk2i Q.out.2.1
   go_wp2
   obtain ⟨q,hh2,hb2⟩:=Q.out
   obtain ⟨⟨g0,g1⟩,_⟩:=blk2i (set2_heap hh2 (x := .bool (decide (sgz true (natOf (bytesOf r))<0))) (y := .slice A' n' c'))
   refine bodyPost_ret (v := .agg #[.bool (decide (sgz true (natOf (bytesOf r))<0)),.slice A' n' c']) (by simp [results,Tryz.results115,go_sem,g0,g1]) rfl ⟨_,rfl,q.set2 hh2 (fun n h=>by cases h) (fun n h=>by cases h),?_⟩
   exact (hb2.setCell (p:=⟨w.heap.size,0,none⟩) (Nat.le_refl _) _).setCell (p:=⟨w.heap.size,1,none⟩) (Nat.le_refl _) _
end Go.Proofs.YtbhcckhbbclemaaGreatDoor
namespace Go.Proofs.YtbhcckhbbclemaaGreatDoor.Ab
open Go.RowKit Go.Proofs.YtbhcckhbbclemaaGreatDoor Pl
theorem decB_dig (n:Nat):AllDig (bytesOf (decB n)):=by
 have:bytesOf (decB n)=Lib.decDigits n:=decB_list n
 rw [this];exact (natOf_dec n).2.1
theorem decB_nat (n:Nat):natOf (bytesOf (decB n))=n:=by
 have:bytesOf (decB n)=Lib.decDigits n:=decB_list n
 rw [this];exact (natOf_dec n).1
theorem decB_pos (n:Nat):0<(decB n).size:=by
 have h:(decB n).size=(Lib.decDigits n).length:=by simp [decB,ByteArray.size]
 rw [h];exact List.length_pos_iff.2 (natOf_dec n).2.2
theorem pz_of {β:List Nat} {v:Value} {w:World} {d:Nat} (h:In w v (d:Int)):(pz d).holds β v w:=by
 obtain ⟨A,n,c,xs,rfl,hr,hd,hn,hv⟩:=h
 have e:decide ((d:Int)<0)=false:=decide_eq_false (not_neg d)
 rw [e]
 exact ⟨[.bool false,.slice A n c],rfl,[.bool false],_,rfl,⟨rfl,rfl⟩,[.slice A n c],[],rfl,⟨_,rfl,A,n,c,xs,rfl,hr,hd,hn,by simpa using hv⟩,rfl⟩
theorem parseF {z:Int} (hz:(decB z.natAbs).size≤100000):Fits Tryz.prog 115 [rS (textB z)] (iz z):=by
 intro β w vs hv
 obtain ⟨v,rfl,h1⟩:=args1 hv
 rw [r_is h1]
 unfold textB
 split
 ·rename_i h
  refine (parse_minus (decB z.natAbs) w (decB_dig _) hz).mono fun e w' ⟨v,e1,e2,e3⟩=>⟨v,e1,e3,iz_holds.2 ?_⟩
  rw [decB_nat] at e2
  have:sgz true z.natAbs=z:=by simp [sgz];omega
  rwa [this] at e2
 ·rename_i h
  refine (parse_plain (decB z.natAbs) w (decB_dig _) (decB_pos _) hz).mono fun e w' ⟨v,e1,e2,e3⟩=>⟨v,e1,e3,iz_holds.2 ?_⟩
  rw [decB_nat] at e2
  have:sgz false z.natAbs=z:=by simp [sgz];omega
  rwa [this] at e2
theorem parseDF {d:Nat} (hz:(decB d).size≤100000):Fits Tryz.prog 115 [rS (decB d)] (pz d):=by
 intro β w vs hv
 obtain ⟨v,rfl,h1⟩:=args1 hv
 rw [r_is h1]
 refine (parse_plain (decB d) w (decB_dig _) (decB_pos _) hz).mono fun e w' ⟨v,e1,e2,e3⟩=>⟨v,e1,e3,pz_of ?_⟩
 rw [decB_nat] at e2
 exact e2
theorem wholeOneF:Fits Tryz.prog 112 [.fv (.sc (.lit (.int .i64 1)))] (pz 1):=by
 intro β w vs hv
 obtain ⟨v,rfl,h1⟩:=args1 hv
 rw [r_lit h1]
 exact (whole_any 1 w (by constructor <;> omega)).mono fun e w' ⟨v,e1,e2,e3⟩=>⟨v,e1,e3,pz_of e2⟩
theorem slashF {s:ByteArray} (hs:s.size≤9223372036854775807):Fits Tryz.prog 110 [rS s] (rI (slashB s:Nat)):=by
 intro β w vs hv
 obtain ⟨v,rfl,h1⟩:=args1 hv
 rw [r_is h1]
 exact (slash_any s w hs).mono fun e w' ⟨e1,e2⟩=>⟨_,e1,by rw [e2];exact Below.refl _ _,is_r⟩
theorem rlen_run {o:Oper} {ρ:Operand→Value} {w:World} {t:Tmp} {T:TypeId} {s:ByteArray} (ho:o.op = .call ⟨.builtin .len,#[.tmp t],#[T]⟩) (hT:Tryz.prog.underlying T=some .string) (hx:ρ (.tmp t) = .string s) :
 (execOp ρ o).run Tryz.prog w = .ok (.value (.int .i64 s.size)) w:=len_run ho hT hx
theorem slice_hi {o:Oper} {ρ:Operand→Value} {w:World} {T:TypeId} {x y:Operand} {s:ByteArray} {k:Nat} (ho:o.op = .slice T x none (some y) none) (hT:Tryz.prog.underlying T=some .string) (hx:ρ x = .string s) (hy:ρ y = .int .i64 (k:Int)) (hk:k≤s.size) :
 (execOp ρ o).run Tryz.prog w = .ok (.value (.string (s.extract 0 k))) w:=by
 simp only [execOp,ho,hx]
 refine run_v ?_
 have h1:(k:Int)≤s.size:=by omega
 simp only [Option.map,hy]
 rw [run_sliceAt_string w _ _ _ _ _ hT]
 simp [Instr.slice,run_underlying hT,Instr.sliceBounds,run_sliceBound,h1,hk]
theorem slice_lo {o:Oper} {ρ:Operand→Value} {w:World} {T:TypeId} {x y:Operand} {s:ByteArray} {k:Nat} (ho:o.op = .slice T x (some y) none none) (hT:Tryz.prog.underlying T=some .string) (hx:ρ x = .string s) (hy:ρ y = .int .i64 (k:Int)) (hk:k≤s.size) :
 (execOp ρ o).run Tryz.prog w = .ok (.value (.string (s.extract k s.size))) w:=by
 simp only [execOp,ho,hx]
 refine run_v ?_
 have h1:(k:Int)≤s.size:=by omega
 simp only [Option.map,hy]
 rw [run_sliceAt_string w _ _ _ _ _ hT]
 simp [Instr.slice,run_underlying hT,Instr.sliceBounds,run_sliceBound,h1,hk]
theorem add1_run {o:Oper} {ρ:Operand→Value} {w:World} {x:Operand} {a:Nat} (ho:o.op = .binOp .add 3 x (.const (.int .i64 1)) 3) (hx:ρ x = .int .i64 (a:Int)) (hy:ρ (.const (.int .i64 1)) = .int .i64 1) (ha:a<9223372036854775807) :
 (execOp ρ o).run Tryz.prog w = .ok (.value (.int .i64 ((a+1:Nat):Int))) w:=by
 simp only [execOp,ho,hx,hy]
 refine run_v ?_
 have e:IntKind.i64.wrap ((a:Int)+1)=((a+1:Nat):Int):=by
  rw [IntWalk.i64_left,IntWalk.wrap64_in _ ⟨by omega,by omega⟩];omega
 simp [go_sem,e]
theorem write_one {q:Rat} (h:q.den=1):writeB q=textB q.num:=by
 unfold writeB textB overB
 rw [if_pos h]
theorem write_parts {q:Rat} (h:q.den≠1):writeB q=textB q.num++(⟨#[47]⟩++decB q.den):=by
 unfold writeB textB overB
 rw [if_neg h]
theorem dig47 {l:List UInt8} (h:AllDig l):∀ c∈l,(c==47)=false:=by
 intro c hc
 have:=h c hc
 rw [beq_eq_false_iff_ne]
 rintro rfl
 revert this
 decide
theorem text47 (z:Int):∀ c∈bytesOf (textB z),(c==47)=false:=by
 unfold textB
 split
 ·intro c hc
  have e:bytesOf (⟨#[45]⟩++decB z.natAbs:ByteArray)=45::bytesOf (decB z.natAbs):=by simp [bytesOf]
  rw [e] at hc
  rcases List.mem_cons.1 hc with rfl|hc
  ·rfl
  ·exact dig47 (decB_dig _) c hc
 ·exact dig47 (decB_dig _)
theorem slash_one (z:Int):slashB (textB z)=(textB z).size:=by
 unfold slashB
 rw [← bytesOf_length,List.findIdx_eq_length]
 exact text47 z
theorem slash_two (z:Int) (r:ByteArray):slashB (textB z++(⟨#[47]⟩++r))=(textB z).size:=by
 unfold slashB
 have e:bytesOf (textB z++(⟨#[47]⟩++r))=bytesOf (textB z)++47::bytesOf r:=by simp [bytesOf]
 rw [e,List.findIdx_append,if_neg (by
  rw [Nat.not_lt,Nat.le_iff_lt_or_eq]
  right
  exact ((List.findIdx_eq_length).2 (text47 z)).symm),List.findIdx_cons]
 simp [← bytesOf_length]
theorem ext_lo (a b:ByteArray):(a++b).extract 0 a.size=a:=by
 apply ba_ext
 simp
 exact List.take_of_length_le (Nat.le_of_eq rfl)
theorem ext_hi (a b:ByteArray):(a++(⟨#[47]⟩++b)).extract (a.size+1) (a++(⟨#[47]⟩++b)).size=b:=by
 have h:bytesOf ((a++(⟨#[47]⟩++b)).extract (a.size+1) (a++(⟨#[47]⟩++b)).size)=bytesOf b:=by
  rw [bytesOf_extract,List.take_of_length_le (by rw [bytesOf_length];exact Nat.le_refl _)]
  have e:bytesOf (a++(⟨#[47]⟩++b))=bytesOf a++47::bytesOf b:=by simp [bytesOf]
  rw [e,List.drop_append,List.drop_of_length_le (by rw [bytesOf_length];omega),List.nil_append,bytesOf_length,Nat.add_sub_cancel_left]
  rfl
 exact ba_ext h
abbrev prt (q:Rat):AV Kr := .tup [.ag [rB (decide (q.num<0)),.sp (csDi q.num.natAbs)],.ag [.lit (.bool false),.sp (csDi q.den)]]
theorem partsF {q:Rat} (hn:(decB q.num.natAbs).size≤100000) (hd:(decB q.den).size≤100000):Fits Tryz.prog 51 [rS (writeB q)] (prt q):=by
 have hts:(textB q.num).size≤100001:=by
  unfold textB
  split
  ·rw [ByteArray.size_append]
   have:(⟨#[45]⟩:ByteArray).size=1:=rfl
   omega
  ·omega
 by_cases h1:q.den=1
 ·have e1:q.den=1:=h1
  rw [write_one h1]
  have hsl:=slash_one q.num
  have hres:prt q = .tup [.ag [rB (decide (q.num<0)),.sp (csDi q.num.natAbs)],.ag [.lit (.bool false),.sp (csDi 1)]]:=by show AV.tup _=AV.tup _;rw [e1]
  rw [hres]
  generalize hs:textB q.num=s at *
  refine rgo Tryz.func51 (by kernel_rfl) fun w00=>?_
  refine rcall 110 [rS s] (slashF (by omega)) (by kernel_rfl) Tryz.call110 ?_
  refine rop2 (.call ⟨.builtin .len,#[.tmp 10],#[9]⟩) (.tmp 10) (.tmp 10) (rS s) (rS s) (rI s.size) (by kernel_rfl) (by simp [Op.operands,Call.operands]) (by simp [Op.operands,Call.operands]) (fun ρ o β w ho hx _=>⟨_,rlen_run ho Tryz.underlying9 (r_is hx),is_r⟩) ?_
  refine rop2 (.binOp .eql 3 (.tmp 9) (.tmp 11) 3) (.tmp 9) (.tmp 11) (rI (slashB s:Nat)) (rI s.size) (rl true) (by kernel_rfl) (by simp [Op.operands]) (by simp [Op.operands]) (fun ρ o β w ho hx hy=>⟨.bool true,ieq_run ho (r_is hx) (r_is hy) (by rw [hsl];simp),rlit rfl⟩) ?_
  refine rcall 115 [rS s] (by rw [← hs];exact parseF hn) (by kernel_rfl) Tryz.call115 ?_
  refine rcall 112 [.fv (.sc (.lit (.int .i64 1)))] wholeOneF (by kernel_rfl) Tryz.call112 ?_
  exact rret Tryz.func51 (by kernel_rfl)
 ·rw [write_parts h1]
  have hsl:=slash_two q.num (decB q.den)
  have hx1:=ext_lo (textB q.num) (⟨#[47]⟩++decB q.den)
  have hx2:=ext_hi (textB q.num) (decB q.den)
  have hsz:(textB q.num++(⟨#[47]⟩++decB q.den):ByteArray).size=(textB q.num).size+1+(decB q.den).size:=by
   rw [ByteArray.size_append,ByteArray.size_append]
   have:(⟨#[47]⟩:ByteArray).size=1:=rfl
   omega
  generalize hs:(textB q.num++(⟨#[47]⟩++decB q.den):ByteArray)=s at *
  generalize hk:(textB q.num).size=k at *
  refine rgo Tryz.func51 (by kernel_rfl) fun w00=>?_
  refine rcall 110 [rS s] (slashF (by omega)) (by kernel_rfl) Tryz.call110 ?_
  refine rop2 (.call ⟨.builtin .len,#[.tmp 10],#[9]⟩) (.tmp 10) (.tmp 10) (rS s) (rS s) (rI s.size) (by kernel_rfl) (by simp [Op.operands,Call.operands]) (by simp [Op.operands,Call.operands]) (fun ρ o β w ho hx _=>⟨_,rlen_run ho Tryz.underlying9 (r_is hx),is_r⟩) ?_
  refine rop2 (.binOp .eql 3 (.tmp 9) (.tmp 11) 3) (.tmp 9) (.tmp 11) (rI (slashB s:Nat)) (rI s.size) (rl false) (by kernel_rfl) (by simp [Op.operands]) (by simp [Op.operands]) (fun ρ o β w ho hx hy=>⟨.bool false,ieq_run ho (r_is hx) (r_is hy) (by rw [hsl,hsz];simp;omega),rlit rfl⟩) ?_
  refine rop2 (.slice 9 (.tmp 16) none (some (.tmp 17)) none) (.tmp 16) (.tmp 17) (rS s) (rI (slashB s:Nat)) (rS (textB q.num)) (by kernel_rfl) (by simp [Op.operands]) (by simp [Op.operands]) (fun ρ o β w ho hx hy=>?_) ?_
  ·have:=slice_hi (w:=w) ho Tryz.underlying9 (r_is hx) (by have:=r_is hy;rwa [hsl] at this) (by omega)
   rw [hx1] at this
   exact ⟨_,this,is_r⟩
  refine rcall 115 [rS (textB q.num)] (parseF hn) (by kernel_rfl) Tryz.call115 ?_
  refine rop2 (.binOp .add 3 (.tmp 21) (.const (.int .i64 1)) 3) (.tmp 21) (.const (.int .i64 1)) (rI (slashB s:Nat)) (.fv (.sc (.lit (.int .i64 1)))) (rI ((k+1:Nat):Int)) (by kernel_rfl) (by simp [Op.operands]) (by simp [Op.operands]) (fun ρ o β w ho hx hy=>⟨_,add1_run ho (by have:=r_is hx;rwa [hsl] at this) (r_lit hy) (by omega),is_r⟩) ?_
  refine rop2 (.slice 9 (.tmp 20) (some (.tmp 22)) none none) (.tmp 20) (.tmp 22) (rS s) (rI ((k+1:Nat):Int)) (rS (decB q.den)) (by kernel_rfl) (by simp [Op.operands]) (by simp [Op.operands]) (fun ρ o β w ho hx hy=>?_) ?_
  ·have:=slice_lo (w:=w) ho Tryz.underlying9 (r_is hx) (r_is hy) (by omega)
   rw [hx2] at this
   exact ⟨_,this,is_r⟩
  refine rcall 115 [rS (decB q.den)] (parseDF hd) (by kernel_rfl) Tryz.call115 ?_
  exact rret Tryz.func51 (by kernel_rfl)
theorem mk_parts (n:Int) {d:Nat} (h:d≠0):(mkRat n d).num=n/(Nat.gcd n.natAbs d:Nat)∧(mkRat n d).den=d/Nat.gcd n.natAbs d:=by
 rw [← Rat.normalize_eq_mkRat h,Rat.normalize_eq]
 exact ⟨rfl,rfl⟩
theorem sgz_div (n:Int) {g:Nat} (hg:g ∣ n.natAbs) (h0:0<g):sgz (decide (n<0)) (n.natAbs/g)=n/(g:Int):=by
 obtain ⟨k,hk⟩:=hg
 have e:n.natAbs/g=k:=by rw [hk];exact Nat.mul_div_cancel_left _ h0
 rw [e]
 unfold sgz
 split
 ·rename_i h
  have hn:n=(g:Int)*(-(k:Int)):=by
   have:n = -(n.natAbs:Int):=by simp at h;omega
   rw [this,hk];simp [Int.mul_neg]
  rw [hn,Int.mul_ediv_cancel_left _ (by omega)]
 ·rename_i h
  have hn:n=(g:Int)*(k:Int):=by
   have:n=(n.natAbs:Int):=by simp at h;omega
   rw [this,hk];simp
  rw [hn,Int.mul_ediv_cancel_left _ (by omega)]
theorem textB_nat (d:Nat):textB (d:Int)=decB d:=by unfold textB;rw [if_neg (not_neg d)];rfl
theorem frac_write (n:Int) {d:Nat} (h:0<d):(if d/Nat.gcd n.natAbs d=1 then textB (sgz (decide (n<0)) (n.natAbs/Nat.gcd n.natAbs d)) else textB (sgz (decide (n<0)) (n.natAbs/Nat.gcd n.natAbs d))++⟨#[47]⟩++textB ((d/Nat.gcd n.natAbs d:Nat):Int))=writeB (mkRat n d):=by
 obtain ⟨e1,e2⟩:=mk_parts n (Nat.ne_of_gt h)
 have hg:0<Nat.gcd n.natAbs d:=Nat.gcd_pos_of_pos_right _ h
 rw [sgz_div n (Nat.gcd_dvd_left _ _) hg,← e1,← e2,textB_nat]
 split
 ·rename_i h1;rw [write_one h1]
 ·rename_i h1;rw [write_parts h1,ByteArray.append_assoc]
theorem rargs {P:Program} {f:FuncId} {l l' : List (AV Kr)} {x:AV Kr} (h:Fits P f l x) (hl:∀ β vs w,holdsA β l' vs w→holdsA β l vs w):Fits P f l' x:=fun β w vs hv=>h β w vs (hl β vs w hv)
theorem rres {P:Program} {f:FuncId} {l:List (AV Kr)} {x y:AV Kr} (h:Fits P f l x) (hl:∀ β v w,x.holds β v w→y.holds β v w):Fits P f l y:=fun β w vs hv=>(h β w vs hv).mono fun _ _ ⟨v,e1,e2,e3⟩=>⟨v,e1,e2,hl β v _ e3⟩
theorem pz_iz {β:List Nat} {v:Value} {w:World} {d:Nat} (h:(pz d).holds β v w):(iz (d:Int)).holds β v w:=by
 obtain ⟨cs,rfl,a,r,rfl,h1,b,r2,rfl,h2,h3⟩:=h
 have h1':=h1.1
 subst h1'
 refine ⟨_,rfl,[.bool false],_,rfl,?_,b,r2,rfl,?_,h3⟩
 ·show [Value.bool false] = [.bool (decide ((d:Int)<0))]
  rw [decide_eq_false (not_neg d)]
 ·obtain ⟨u,e,hu⟩:=h2
  exact ⟨u,e,by simpa using hu⟩
theorem iz_pz {β:List Nat} {v:Value} {w:World} {d:Nat} (h:(iz (d:Int)).holds β v w):(pz d).holds β v w:=pz_of (iz_holds.1 h)
theorem timesZP {a:Int} {b:Nat} (ha:Bd a.natAbs) (hb:Bd b):Fits Tryz.prog 53 [iz a,pz b] (iz (a*b)) :=
 rargs (timesZ ha (by simpa using hb)) fun β vs w ⟨v,r,e,h1,u,r2,e2,h2,h3⟩=>⟨v,r,e,h1,u,r2,e2,pz_iz h2,h3⟩
theorem timesPP {a b:Nat} (ha:Bd a) (hb:Bd b):Fits Tryz.prog 53 [pz a,pz b] (pz (a*b)) :=
 rres (rargs (timesZ (a:=(a:Int)) (b:=(b:Int)) (by simpa using ha) (by simpa using hb)) fun β vs w ⟨v,r,e,h1,u,r2,e2,h2,h3⟩=>⟨v,r,e,pz_iz h1,u,r2,e2,pz_iz h2,h3⟩)
  fun β v w h=>iz_pz (d:=a*b) (by simpa using h)
abbrev rU (n:Nat):AV Kr := .fv (.sc (.sp (csIsR (.int .u8 (n:Int)) rfl true (fun _=>rfl))))
theorem index_s {o:Oper} {ρ:Operand→Value} {w:World} {t:Tmp} {s:ByteArray} {c:Nat} (ho:o.op = .index 9 (.tmp t) (.const (.int .i64 0))) (hx:ρ (.tmp t) = .string s) (hy:ρ (.const (.int .i64 0)) = .int .i64 0) (hc:∃ h:0<s.size,(s[0]'h).toNat=c) :
 (execOp ρ o).run Tryz.prog w = .ok (.value (.int .u8 (c:Int))) w:=by
 obtain ⟨h,hc⟩:=hc
 simp only [execOp,ho,hx,hy]
 refine run_v ?_
 have h0:¬ s.size=0:=by omega
 simp [go_sem,run_underlying Tryz.underlying9,h,h0,hc]
theorem ueq_run {o:Oper} {ρ:Operand→Value} {w:World} {x y:Operand} {a b:Int} {r:Bool} (ho:o.op = .binOp .eql 5 x y 5) (hx:ρ x = .int .u8 a) (hy:ρ y = .int .u8 b) (h:(a==b)=r) :
 (execOp ρ o).run Tryz.prog w = .ok (.value (.bool r)) w:=by
 simp only [execOp,ho,hx,hy]
 refine run_v ?_
 rw [← h]
 exact evalP_run (by kernel_rfl) w
theorem subn_run {o:Oper} {ρ:Operand→Value} {w:World} {x y:Operand} {a b:Nat} (ho:o.op = .binOp .sub 3 x y 3) (hx:ρ x = .int .i64 (a:Int)) (hy:ρ y = .int .i64 (b:Int)) (hle:b≤a) (ha:a≤9223372036854775807) :
 (execOp ρ o).run Tryz.prog w = .ok (.value (.int .i64 ((a-b:Nat):Int))) w:=by
 simp only [execOp,ho,hx,hy]
 refine run_v ?_
 have e:IntKind.i64.wrap ((a:Int)-b)=((a-b:Nat):Int):=by
  rw [IntWalk.i64_left,IntWalk.wrap64_in _ ⟨by omega,by omega⟩];omega
 simp [go_sem,e]
theorem lss_run {o:Oper} {ρ:Operand→Value} {w:World} {x y:Operand} {a b:Int} {r:Bool} (ho:o.op = .binOp .lss 3 x y 3) (hx:ρ x = .int .i64 a) (hy:ρ y = .int .i64 b) (h:decide (a<b)=r) :
 (execOp ρ o).run Tryz.prog w = .ok (.value (.bool r)) w:=by
 simp only [execOp,ho,hx,hy]
 refine run_v ?_
 rw [← h]
 exact evalP_run (by kernel_rfl) w
theorem index_26 {o:Oper} {ρ:Operand→Value} {w:World} {t:Tmp} {s:ByteArray} {c:Nat} (ho:o.op = .index 22 (.tmp t) (.const (.int .i64 0))) (hx:ρ (.tmp t) = .string s) (hy:ρ (.const (.int .i64 0)) = .int .i64 0) (hc:∃ h:0<s.size,(s[0]'h).toNat=c) :
 (execOp ρ o).run Tryz.prog w = .ok (.value (.int .u8 (c:Int))) w:=by
 obtain ⟨h,hc⟩:=hc
 simp only [execOp,ho,hx,hy]
 refine run_v ?_
 have h0:¬ s.size=0:=by omega
 simp [go_sem,run_underlying Tryz.underlying22,h,h0,hc]
theorem leq_run {o:Oper} {ρ:Operand→Value} {w:World} {x y:Operand} {a b:Int} {r:Bool} (ho:o.op = .binOp .leq 3 x y 3) (hx:ρ x = .int .i64 a) (hy:ρ y = .int .i64 b) (h:decide (a≤b)=r) :
 (execOp ρ o).run Tryz.prog w = .ok (.value (.bool r)) w:=by
 simp only [execOp,ho,hx,hy]
 refine run_v ?_
 rw [← h]
 exact evalP_run (by kernel_rfl) w
section
variable {f:FuncId} {w00:World} {Out:Value→World→Prop} {c:Cfg Kr}
abbrev rli (n:Int):AV Kr := .fv (.sc (.lit (.int .i64 n)))
theorem rlen (t:Tmp) (T:TypeId) (hT:Tryz.prog.underlying T=some .string) (s:ByteArray) (hg:Ok Tryz.prog f w00 Out (runA Tryz.prog 1000 (c.give (rI (s.size:Nat)))))
 (hc:(c.op.map fun o=>o.op,c.okT (rI (s.size:Nat)),c.ev (.tmp t),c.ev (.tmp t))=(some (.call ⟨.builtin .len,#[.tmp t],#[T]⟩),true,(rS s),(rS s)):=by kernel_rfl):Ok Tryz.prog f w00 Out c :=
 rop2 (.call ⟨.builtin .len,#[.tmp t],#[T]⟩) (.tmp t) (.tmp t) (rS s) (rS s) (rI (s.size:Nat)) hc (by simp [Op.operands,Call.operands]) (by simp [Op.operands,Call.operands]) (fun ρ o β w ho hx hy=>⟨_,rlen_run ho hT (r_is hx),is_r⟩) hg
theorem rgt (t:Tmp) (n a:Int) (r:Bool) (h:decide (n<a)=r) (hg:Ok Tryz.prog f w00 Out (runA Tryz.prog 1000 (c.give (rl r))))
 (hc:(c.op.map fun o=>o.op,c.okT (rl r),c.ev (.tmp t),c.ev (.const (.int .i64 n)))=(some (.binOp .gtr 3 (.tmp t) (.const (.int .i64 n)) 3),true,(rI a),(rli n)):=by kernel_rfl):Ok Tryz.prog f w00 Out c :=
 rop2 (.binOp .gtr 3 (.tmp t) (.const (.int .i64 n)) 3) (.tmp t) (.const (.int .i64 n)) (rI a) (rli n) (rl r) hc (by simp [Op.operands]) (by simp [Op.operands]) (fun ρ o β w ho hx hy=>⟨_,gt_run ho (r_is hx) (r_lit hy) h,rlit rfl⟩) hg
theorem ridn (t:Tmp) (s:ByteArray) (h:∃ h:0<s.size,(s[0]'h).toNat=45) (hg:Ok Tryz.prog f w00 Out (runA Tryz.prog 1000 (c.give (.fv (.sc (.lit (.int .u8 45)))))))
 (hc:(c.op.map fun o=>o.op,c.okT (.fv (.sc (.lit (.int .u8 45)))),c.ev (.tmp t),c.ev (.const (.int .i64 0)))=(some (.index 9 (.tmp t) (.const (.int .i64 0))),true,(rS s),(rli 0)):=by kernel_rfl):Ok Tryz.prog f w00 Out c :=
 rop2 (.index 9 (.tmp t) (.const (.int .i64 0))) (.tmp t) (.const (.int .i64 0)) (rS s) (rli 0) (.fv (.sc (.lit (.int .u8 45)))) hc (by simp [Op.operands]) (by simp [Op.operands]) (fun ρ o β w ho hx hy=>⟨_,index_s ho (r_is hx) (r_lit hy) h,rlit rfl⟩) hg
theorem ridp (t:Tmp) (s:ByteArray) (n:Nat) (h:∃ h:0<s.size,(s[0]'h).toNat=n) (hg:Ok Tryz.prog f w00 Out (runA Tryz.prog 1000 (c.give (rU n))))
 (hc:(c.op.map fun o=>o.op,c.okT (rU n),c.ev (.tmp t),c.ev (.const (.int .i64 0)))=(some (.index 9 (.tmp t) (.const (.int .i64 0))),true,(rS s),(rli 0)):=by kernel_rfl):Ok Tryz.prog f w00 Out c :=
 rop2 (.index 9 (.tmp t) (.const (.int .i64 0))) (.tmp t) (.const (.int .i64 0)) (rS s) (rli 0) (rU n) hc (by simp [Op.operands]) (by simp [Op.operands]) (fun ρ o β w ho hx hy=>⟨_,index_s ho (r_is hx) (r_lit hy) h,is_r⟩) hg
theorem ridnR (t:Tmp) (s:ByteArray) (h:∃ h:0<s.size,(s[0]'h).toNat=45) (hg:Ok Tryz.prog f w00 Out (runA Tryz.prog 1000 (c.give (.fv (.sc (.lit (.int .u8 45)))))))
 (hc:(c.op.map fun o=>o.op,c.okT (.fv (.sc (.lit (.int .u8 45)))),c.ev (.tmp t),c.ev (.const (.int .i64 0)))=(some (.index 22 (.tmp t) (.const (.int .i64 0))),true,(rS s),(rli 0)):=by kernel_rfl):Ok Tryz.prog f w00 Out c :=
 rop2 (.index 22 (.tmp t) (.const (.int .i64 0))) (.tmp t) (.const (.int .i64 0)) (rS s) (rli 0) (.fv (.sc (.lit (.int .u8 45)))) hc (by simp [Op.operands]) (by simp [Op.operands]) (fun ρ o β w ho hx hy=>⟨_,index_26 ho (r_is hx) (r_lit hy) h,rlit rfl⟩) hg
theorem ridpR (t:Tmp) (s:ByteArray) (n:Nat) (h:∃ h:0<s.size,(s[0]'h).toNat=n) (hg:Ok Tryz.prog f w00 Out (runA Tryz.prog 1000 (c.give (rU n))))
 (hc:(c.op.map fun o=>o.op,c.okT (rU n),c.ev (.tmp t),c.ev (.const (.int .i64 0)))=(some (.index 22 (.tmp t) (.const (.int .i64 0))),true,(rS s),(rli 0)):=by kernel_rfl):Ok Tryz.prog f w00 Out c :=
 rop2 (.index 22 (.tmp t) (.const (.int .i64 0))) (.tmp t) (.const (.int .i64 0)) (rS s) (rli 0) (rU n) hc (by simp [Op.operands]) (by simp [Op.operands]) (fun ρ o β w ho hx hy=>⟨_,index_26 ho (r_is hx) (r_lit hy) h,is_r⟩) hg
theorem rueq (t:Tmp) (n:Nat) (h:((n:Int)==45)=false) (hg:Ok Tryz.prog f w00 Out (runA Tryz.prog 1000 (c.give (rl false))))
 (hc:(c.op.map fun o=>o.op,c.okT (rl false),c.ev (.tmp t),c.ev (.const (.int .u8 45)))=(some (.binOp .eql 5 (.tmp t) (.const (.int .u8 45)) 5),true,(rU n),(.fv (.sc (.lit (.int .u8 45))))):=by kernel_rfl):Ok Tryz.prog f w00 Out c :=
 rop2 (.binOp .eql 5 (.tmp t) (.const (.int .u8 45)) 5) (.tmp t) (.const (.int .u8 45)) (rU n) (.fv (.sc (.lit (.int .u8 45)))) (rl false) hc (by simp [Op.operands]) (by simp [Op.operands]) (fun ρ o β w ho hx hy=>⟨.bool false,ueq_run ho (r_is hx) (r_lit hy) h,rlit rfl⟩) hg
theorem rshi (t i:Tmp) (T:TypeId) (hT:Tryz.prog.underlying T=some .string) (s:ByteArray) (k:Nat) (a:ByteArray) (hk:k≤s.size) (ha:s.extract 0 k=a) (hg:Ok Tryz.prog f w00 Out (runA Tryz.prog 1000 (c.give (rS a))))
 (hc:(c.op.map fun o=>o.op,c.okT (rS a),c.ev (.tmp t),c.ev (.tmp i))=(some (.slice T (.tmp t) none (some (.tmp i)) none),true,(rS s),(rI (k:Int))):=by kernel_rfl):Ok Tryz.prog f w00 Out c :=
 rop2 (.slice T (.tmp t) none (some (.tmp i)) none) (.tmp t) (.tmp i) (rS s) (rI (k:Int)) (rS a) hc (by simp [Op.operands]) (by simp [Op.operands]) (fun ρ o β w ho hx hy=>⟨_,ha▸slice_hi ho hT (r_is hx) (r_is hy) hk,is_r⟩) hg
theorem rslo (t i:Tmp) (T:TypeId) (hT:Tryz.prog.underlying T=some .string) (s:ByteArray) (k:Nat) (d:ByteArray) (hk:k≤s.size) (hd:s.extract k s.size=d) (hg:Ok Tryz.prog f w00 Out (runA Tryz.prog 1000 (c.give (rS d))))
 (hc:(c.op.map fun o=>o.op,c.okT (rS d),c.ev (.tmp t),c.ev (.tmp i))=(some (.slice T (.tmp t) (some (.tmp i)) none none),true,(rS s),(rI (k:Int))):=by kernel_rfl):Ok Tryz.prog f w00 Out c :=
 rop2 (.slice T (.tmp t) (some (.tmp i)) none none) (.tmp t) (.tmp i) (rS s) (rI (k:Int)) (rS d) hc (by simp [Op.operands]) (by simp [Op.operands]) (fun ρ o β w ho hx hy=>⟨_,hd▸slice_lo ho hT (r_is hx) (r_is hy) hk,is_r⟩) hg
theorem rsl1 (t:Tmp) (T:TypeId) (hT:Tryz.prog.underlying T=some .string) (s d:ByteArray) (hk:1≤s.size) (hd:s.extract 1 s.size=d) (hg:Ok Tryz.prog f w00 Out (runA Tryz.prog 1000 (c.give (rS d))))
 (hc:(c.op.map fun o=>o.op,c.okT (rS d),c.ev (.tmp t),c.ev (.const (.int .i64 1)))=(some (.slice T (.tmp t) (some (.const (.int .i64 1))) none none),true,(rS s),(rli 1)):=by kernel_rfl):Ok Tryz.prog f w00 Out c :=
 rop2 (.slice T (.tmp t) (some (.const (.int .i64 1))) none none) (.tmp t) (.const (.int .i64 1)) (rS s) (rli 1) (rS d) hc (by simp [Op.operands]) (by simp [Op.operands]) (fun ρ o β w ho hx hy=>⟨_,hd▸slice_lo (k:=1) ho hT (r_is hx) (r_lit hy) hk,is_r⟩) hg
theorem radd (t:Tmp) (k:Nat) (h:k<9223372036854775807) (hg:Ok Tryz.prog f w00 Out (runA Tryz.prog 1000 (c.give (rI ((k+1:Nat):Int)))))
 (hc:(c.op.map fun o=>o.op,c.okT (rI ((k+1:Nat):Int)),c.ev (.tmp t),c.ev (.const (.int .i64 1)))=(some (.binOp .add 3 (.tmp t) (.const (.int .i64 1)) 3),true,(rI (k:Int)),(rli 1)):=by kernel_rfl):Ok Tryz.prog f w00 Out c :=
 rop2 (.binOp .add 3 (.tmp t) (.const (.int .i64 1)) 3) (.tmp t) (.const (.int .i64 1)) (rI (k:Int)) (rli 1) (rI ((k+1:Nat):Int)) hc (by simp [Op.operands]) (by simp [Op.operands]) (fun ρ o β w ho hx hy=>⟨_,add1_run ho (r_is hx) (r_lit hy) h,is_r⟩) hg
theorem rseq (t:Tmp) (T:TypeId) (s b:ByteArray) (r:Bool) (h:(s.toList==b.toList)=r) (hg:Ok Tryz.prog f w00 Out (runA Tryz.prog 1000 (c.give (rl r))))
 (hc:(c.op.map fun o=>o.op,c.okT (rl r),c.ev (.tmp t),c.ev (.const (.string b)))=(some (.binOp .eql T (.tmp t) (.const (.string b)) T),true,(rS s),(.fv (.sc (.lit (.string b))))):=by kernel_rfl):Ok Tryz.prog f w00 Out c :=
 rop2 (.binOp .eql T (.tmp t) (.const (.string b)) T) (.tmp t) (.const (.string b)) (rS s) (.fv (.sc (.lit (.string b)))) (rl r) hc (by simp [Op.operands]) (by simp [Op.operands]) (fun ρ o β w ho hx hy=>⟨_,seq_run ho (r_is hx) (r_lit hy) h,rlit rfl⟩) hg
theorem rlss (t i:Tmp) (a b:Int) (r:Bool) (h:decide (a<b)=r) (hg:Ok Tryz.prog f w00 Out (runA Tryz.prog 1000 (c.give (rl r))))
 (hc:(c.op.map fun o=>o.op,c.okT (rl r),c.ev (.tmp t),c.ev (.tmp i))=(some (.binOp .lss 3 (.tmp t) (.tmp i) 3),true,(rI a),(rI b)):=by kernel_rfl):Ok Tryz.prog f w00 Out c :=
 rop2 (.binOp .lss 3 (.tmp t) (.tmp i) 3) (.tmp t) (.tmp i) (rI a) (rI b) (rl r) hc (by simp [Op.operands]) (by simp [Op.operands]) (fun ρ o β w ho hx hy=>⟨_,lss_run ho (r_is hx) (r_is hy) h,rlit rfl⟩) hg
theorem rsub (t i:Tmp) (a b:Nat) (hle:b≤a) (ha:a≤9223372036854775807) (hg:Ok Tryz.prog f w00 Out (runA Tryz.prog 1000 (c.give (rI ((a-b:Nat):Int)))))
 (hc:(c.op.map fun o=>o.op,c.okT (rI ((a-b:Nat):Int)),c.ev (.tmp t),c.ev (.tmp i))=(some (.binOp .sub 3 (.tmp t) (.tmp i) 3),true,(rI (a:Int)),(rI (b:Int))):=by kernel_rfl):Ok Tryz.prog f w00 Out c :=
 rop2 (.binOp .sub 3 (.tmp t) (.tmp i) 3) (.tmp t) (.tmp i) (rI (a:Int)) (rI (b:Int)) (rI ((a-b:Nat):Int)) hc (by simp [Op.operands]) (by simp [Op.operands]) (fun ρ o β w ho hx hy=>⟨_,subn_run ho (r_is hx) (r_is hy) hle ha,is_r⟩) hg
theorem rleq (t i:Tmp) (a n:Int) (r:Bool) (h:decide (a≤n)=r) (hg:Ok Tryz.prog f w00 Out (runA Tryz.prog 1000 (c.give (rl r))))
 (hc:(c.op.map fun o=>o.op,c.okT (rl r),c.ev (.tmp t),c.ev (.tmp i))=(some (.binOp .leq 3 (.tmp t) (.tmp i) 3),true,(rI a),(rli n)):=by kernel_rfl):Ok Tryz.prog f w00 Out c :=
 rop2 (.binOp .leq 3 (.tmp t) (.tmp i) 3) (.tmp t) (.tmp i) (rI a) (rli n) (rl r) hc (by simp [Op.operands]) (by simp [Op.operands]) (fun ρ o β w ho hx hy=>⟨_,leq_run ho (r_is hx) (r_lit hy) h,rlit rfl⟩) hg
end
end Go.Proofs.YtbhcckhbbclemaaGreatDoor.Ab
