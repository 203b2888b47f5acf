/- Texts of the proof, merged: S3 S4 W1 W2 W3 W4 S7 N1 V1. -/
import Derived.Test.YtdmipnnfooleladKE
import Derived.Test.YtdmipnnfooleladKB
import Derived.BigRegion

namespace Go.Proofs.Ytdmipnnfoolelad
open Go.RowKit Go.Mk

/-- Answers, place by place. -/
theorem ans_form {w : World} {v : Value} {l : List An} (h : RowOf 4 elAn w v l) : ∃ ao cap,v = .slice ao l.length cap ∧ l.length ≤ cap ∧ cap ≤ maxLen ∧
  ∀ k x,l[k]? = some x → ∃ b off,ao = some ⟨b,off,none⟩ ∧ w.cell? ⟨b,off + k * 4,none⟩ = some (I x.client) ∧ w.cell? ⟨b,off + k * 4 + 1,none⟩ = some (I x.token) ∧ w.cell? ⟨b,off + k * 4 + 2,none⟩ = some (I x.reply.err) ∧ w.cell? ⟨b,off + k * 4 + 3,none⟩ = some (I x.reply.n):=by
 obtain ⟨ao,cap,h1,h2,h3,-,h5⟩:=h.form (by decide)
 refine ⟨ao,cap,h1,h2,h3,fun k x hx=>?_⟩
 obtain ⟨b,off,c,e,-,hc,hcell⟩:=h5 k x hx
 have hc : c = [I x.client,I x.token,I x.reply.err,I x.reply.n]:=hc
 subst hc
 exact ⟨b,off,e,hcell 0 _ rfl,by rw [Nat.add_assoc]; exact hcell 1 _ rfl,by rw [Nat.add_assoc]; exact hcell 2 _ rfl,by rw [Nat.add_assoc]; exact hcell 3 _ rfl⟩

theorem last_hit {l : List An} {k : Nat} {x : An} {n : Int} (h : l[k]? = some x) (hn : x.client = n) : lastAn (l.drop k) n = (x,true):=by
 have hk : k < l.length:=(List.getElem?_eq_some_iff.1 h).1
 rw [List.drop_eq_getElem_cons hk,(List.getElem?_eq_some_iff.1 h).2]
 exact if_pos hn
theorem last_miss {l : List An} {k : Nat} {x : An} {n : Int} (h : l[k]? = some x) (hn : ¬ x.client = n) : lastAn (l.drop k) n = lastAn (l.drop (k + 1)) n:=by
 have hk : k < l.length:=(List.getElem?_eq_some_iff.1 h).1
 rw [List.drop_eq_getElem_cons hk,(List.getElem?_eq_some_iff.1 h).2]
 exact if_neg hn
theorem last_end {l : List An} {k : Nat} {n : Int} (h : l.length ≤ k) : lastAn (l.drop k) n = (zeroAn,false):=by
 rw [List.drop_of_length_le h]
 rfl

set_option maxHeartbeats 1000000 in
theorem refLast_any (c u a p : Value) (s : St) (n : Int) (w : World) (h : elSt w [c,u,a,p] s) :
  Calls Try.prog 56 #[.agg #[c,u,a,p],I n] w fun e w'=>e = .returned (.tuple #[AN (lastAn s.answers n).1,.bool (lastAn s.answers n).2]) ∧ Ext w w':=by
 obtain ⟨h1,h2,h3,h4⟩:=st_iff.1 h
 clear h h1 h2 h4
 obtain ⟨aa,ac,rfl,g1,g2,g3⟩:=ans_form h3
 unfold maxLen at g2
 clear h3
 generalize hl : s.answers = l at *
 clear hl
 obtain ⟨RA,RB,hRR⟩ : ∃ RA RB,lastAn l n = (RA,RB):=⟨_,_,rfl⟩
 have HR:=Lib.hid hRR
 rw [hRR]
 clear hRR
 have HG:=Lib.hid g3
 clear g3
 go_enter Try.func56,Try.ntmps56
 go_wp2
 go_loop [10] (fun i=>∃ k : Nat,k ≤ l.length ∧ i = I k ∧ lastAn (l.drop k) n = (RA,RB)) (fun i=>l.length - (intOf i).toNat)
 case atStart=>exact ⟨0,by omega,rfl,HR.out⟩
 case round =>
  obtain ⟨k,hk,rfl,hf⟩:=hrel
  have HF:=Lib.hid hf
  clear hf
  have e0 : Ext w ((w.alloc (.cells #[c,u,.slice aa l.length ac,p] 30)).alloc (.cells #[I 0,I 0,I 0,I 0] 77)):=((Ext.refl w).alloc _).alloc _
  by_cases hlt : k < l.length
  ·obtain ⟨x,hx⟩ : ∃ x,l[k]? = some x:=⟨l[k],List.getElem?_eq_getElem hlt⟩
   obtain ⟨b,off,rfl,c0,c1,c2,c3⟩:=HG.out k x hx
   have HX:=Lib.hid hx
   clear hx
   replace c0:=e0.cell c0
   replace c1:=e0.cell c1
   replace c2:=e0.cell c2
   replace c3:=e0.cell c3
   obtain ⟨xc,xt,⟨xe,xn⟩⟩:=x
   by_cases hc : xc = n
   ·have hb : (xc == n) = true:=by simpa using hc
    have HC:=Lib.hid hc
    clear hc
    go_wp2
    refine bodyPost_ret (by simp [results,Try.results56,go_sem]; rfl) rfl ?_
    have:=last_hit HX.out HC.out
    rw [HF.out] at this
    obtain ⟨rfl,rfl⟩:=Prod.mk.inj this
    exact ⟨rfl,((Ext.refl w).alloc _).alloc _⟩
   ·have hb : (xc == n) = false:=by simpa using hc
    have HC:=Lib.hid hc
    clear hc
    go_wp2
    go_round
    case rel=>exact ⟨k + 1,by omega,by go_num,by rw [← last_miss HX.out HC.out]; exact HF.out⟩
    case measure=>simp [intOf]; omega
  ·go_wp2
   refine bodyPost_ret (by simp [results,Try.results56,go_sem]; rfl) rfl ?_
   have:=HF.out
   rw [last_end (by omega)] at this
   obtain ⟨rfl,rfl⟩:=Prod.mk.inj this
   exact ⟨rfl,e0⟩

end Go.Proofs.Ytdmipnnfoolelad

namespace Go.Proofs.Ytdmipnnfoolelad
open Go.RowKit Go.Mk

/-! Answers, as they are put. -/

theorem put_none {l : List An} {a : An} (h : ∀ x ∈ l,x.client ≠ a.client) : putAn l a = l ++ [a]:=by
 induction l with
 | nil=>rfl
 | cons x l ih =>
  unfold putAn
  rw [if_neg (h x (by simp)),ih (fun y hy=>h y (by simp [hy]))]
  rfl
theorem put_hit {l : List An} {x a : An} (h : ∀ x ∈ l,x.client ≠ a.client) (hx : x.client = a.client) : putAn (l ++ [x]) a = l ++ [a]:=by
 induction l with
 | nil=>exact if_pos hx
 | cons y l ih =>
  have hy : ¬ y.client = a.client:=h y (by simp)
  show (if y.client = a.client then a :: (l ++ [x]) else y :: putAn (l ++ [x]) a) = _
  rw [if_neg hy,ih (fun y hy=>h y (by simp [hy]))]
  rfl
theorem put_after {l : List An} {x a : An} (h : ∃ y ∈ l,y.client = a.client) : putAn (l ++ [x]) a = putAn l a ++ [x]:=by
 induction l with
 | nil=>obtain ⟨y,hy,_⟩:=h; cases hy
 | cons y l ih =>
  show (if y.client = a.client then a :: (l ++ [x]) else y :: putAn (l ++ [x]) a) = (if y.client = a.client then a :: l else y :: putAn l a) ++ [x]
  by_cases hy : y.client = a.client
  ·rw [if_pos hy,if_pos hy]; rfl
  ·rw [if_neg hy,if_neg hy,ih]
   ·rfl
   ·obtain ⟨z,hz,e⟩:=h
    rcases List.mem_cons.1 hz with rfl | hz
    ·exact absurd e hy
    ·exact ⟨z,hz,e⟩
theorem put_len {l : List An} {a : An} (h : ∃ y ∈ l,y.client = a.client) : (putAn l a).length = l.length:=by
 induction l with
 | nil=>obtain ⟨y,hy,_⟩:=h; cases hy
 | cons y l ih =>
  show (if y.client = a.client then a :: l else y :: putAn l a).length = _
  by_cases hy : y.client = a.client
  ·rw [if_pos hy]; rfl
  ·rw [if_neg hy,List.length_cons,ih]
   ·rfl
   ·obtain ⟨z,hz,e⟩:=h
    rcases List.mem_cons.1 hz with rfl | hz
    ·exact absurd e hy
    ·exact ⟨z,hz,e⟩

def cellsA (l : List An) : List Value:=l.flatMap fun x=>[I x.client,I x.token,I x.reply.err,I x.reply.n]
theorem length_cellsA (l : List An) : (cellsA l).length = l.length * 4:=by
 unfold cellsA
 induction l with
 | nil=>rfl
 | cons p l ih=>simp [List.flatMap_cons,ih]; omega
theorem cellsA_append (l m : List An) : cellsA (l ++ m) = cellsA l ++ cellsA m:=by simp [cellsA]
theorem cellsA_one (l : List An) : ∀ u ∈ cellsA l,u.oneCell' = true:=by
 intro u hu
 unfold cellsA at hu
 rw [List.mem_flatMap] at hu
 obtain ⟨p,_,hp⟩:=hu
 simp at hp
 rcases hp with rfl | rfl | rfl | rfl <;> rfl
theorem rd_anss {base e n : Nat} {v : Value} {l : List An} {w : World} (h : w.ownsRow base e 4 v n (cellsA l)) : Rd (fun k=>base ≤ k) (fun w=>RowOf 4 elAn w v l) w:=by
 have hl : l.length = n:=by have:=h.1; rw [length_cellsA] at this; omega
 subst hl
 exact (rd_owns h).imp fun w h=>(rowOf_flat (f:=fun (x : An)=>[I x.client,I x.token,I x.reply.err,I x.reply.n]) (fun _=>rfl)).2 h

theorem Try.infoAnswer : (Try.prog.info? 77).map (fun i=>(i.zero,i.size,i.bytes)) = some (some (.agg #[.int .i64 0,.int .i64 0,.int .i64 0,.int .i64 0]),4,32):=by kernel_rfl
theorem Try.infoRequest : (Try.prog.info? 35).map (fun i=>(i.zero,i.size,i.bytes)) = some (some (.agg #[.int .i64 0,.int .i64 0,.int .i64 0,.int .i64 0,.int .i64 0,.int .i64 0]),6,48):=by kernel_rfl

/-- How far the answers have been put. -/
def PutTo (l : List An) (a : An) (k : Nat) (d : Bool) (m : List An) : Prop :=
 (d = false ∧ (∀ x ∈ l.take k,x.client ≠ a.client) ∧ m = l.take k) ∨ (d = true ∧ (∃ x ∈ l.take k,x.client = a.client) ∧ m = putAn (l.take k) a)
theorem PutTo.len {l : List An} {a : An} {k : Nat} {d : Bool} {m : List An} (h : PutTo l a k d m) (hk : k ≤ l.length) : m.length = k:=by
 rcases h with ⟨_,_,rfl⟩ | ⟨_,h,rfl⟩
 ·rw [List.length_take]; omega
 ·rw [put_len h,List.length_take]; omega
theorem PutTo.hit {l : List An} {a x : An} {k : Nat} {m : List An} (h : PutTo l a k false m) (hx : l[k]? = some x) (hc : x.client = a.client) : PutTo l a (k + 1) true (m ++ [a]):=by
 rcases h with ⟨_,h,rfl⟩ | ⟨h,_⟩
 ·right
  rw [List.take_add_one,hx]
  exact ⟨rfl,⟨x,by simp,hc⟩,(put_hit h hc).symm⟩
 ·cases h
theorem PutTo.miss {l : List An} {a x : An} {k : Nat} {m : List An} (h : PutTo l a k false m) (hx : l[k]? = some x) (hc : ¬ x.client = a.client) : PutTo l a (k + 1) false (m ++ [x]):=by
 rcases h with ⟨_,h,rfl⟩ | ⟨h,_⟩
 ·left
  rw [List.take_add_one,hx]
  refine ⟨rfl,fun y hy=>?_,rfl⟩
  simp at hy
  rcases hy with hy | rfl
  ·exact h y hy
  ·exact hc
 ·cases h
theorem PutTo.after {l : List An} {a x : An} {k : Nat} {m : List An} (h : PutTo l a k true m) (hx : l[k]? = some x) : PutTo l a (k + 1) true (m ++ [x]):=by
 rcases h with ⟨h,_⟩ | ⟨_,h,rfl⟩
 ·cases h
 ·right
  rw [List.take_add_one,hx]
  obtain ⟨y,hy,e⟩:=h
  exact ⟨rfl,⟨y,by simp [hy],e⟩,(put_after ⟨y,hy,e⟩).symm⟩
theorem PutTo.done {l : List An} {a : An} {m : List An} (h : PutTo l a l.length true m) : m = putAn l a:=by
 rcases h with ⟨h,_⟩ | ⟨_,h,rfl⟩
 ·cases h
 ·rw [List.take_length]
theorem PutTo.last {l : List An} {a : An} {m : List An} (h : PutTo l a l.length false m) : m ++ [a] = putAn l a:=by
 rcases h with ⟨_,h,rfl⟩ | ⟨h,_⟩
 ·rw [List.take_length] at *
  exact (put_none h).symm
 ·cases h

theorem five_blocks {w wx : World} {o1 o2 o3 o4 o5 : Obj} (h : Ext (((((w.alloc o1).alloc o2).alloc o3).alloc o4).alloc o5) wx) : wx.heap[w.heap.size]? = some o1 ∧ wx.heap[w.heap.size + 1]? = some o2 ∧ wx.heap[w.heap.size + 1 + 1]? = some o3 ∧ wx.heap[w.heap.size + 1 + 1 + 1]? = some o4 ∧ wx.heap[w.heap.size + 1 + 1 + 1 + 1]? = some o5:=by
 have h3 : Ext (((w.alloc o1).alloc o2).alloc o3) wx:=(((Ext.refl _).alloc o4).alloc o5).trans h
 obtain ⟨a1,a2,a3⟩:=third_block h3
 have a4:=first_block h
 have a5:=second_block h
 exact ⟨a1,a2,a3,by simpa using a4,by simpa using a5⟩

theorem anss_lit0 {w : World} (e : TypeId) (y : An) : Row (w.alloc (.cells #[I y.client,I y.token,I y.reply.err,I y.reply.n] e)) 4 (.slice (some ⟨w.heap.size,0,none⟩) 1 1) 1 (cellsA [y]):=by
 have:=World.ownsRow_lit (base:=0) (e:=e) (size:=4) w #[I y.client,I y.token,I y.reply.err,I y.reply.n] 1 (Nat.zero_le _) (by decide) rfl
 exact Row.of_owns this
theorem anss_lit1 {w : World} (o : Obj) (e : TypeId) (y : An) : Row ((w.alloc o).alloc (.cells #[I y.client,I y.token,I y.reply.err,I y.reply.n] e)) 4 (.slice (some ⟨w.heap.size + 1,0,none⟩) 1 1) 1 (cellsA [y]):=by
 have:=anss_lit0 (w:=w.alloc o) e y
 have e2 : (w.alloc o).heap.size = w.heap.size + 1:=by simp
 rw [e2] at this
 exact this

theorem cells6_one (l : List Rq) : ∀ u ∈ cells6 l,u.oneCell' = true:=by
 intro u hu
 unfold cells6 at hu
 rw [List.mem_flatMap] at hu
 obtain ⟨p,_,hp⟩:=hu
 simp at hp
 rcases hp with rfl | rfl | rfl | rfl | rfl | rfl <;> rfl
theorem cells6_append (l m : List Rq) : cells6 (l ++ m) = cells6 l ++ cells6 m:=by simp [cells6]
theorem rd_rqs {base e n : Nat} {v : Value} {l : List Rq} {w : World} (h : w.ownsRow base e 6 v n (cells6 l)) : Rd (fun k=>base ≤ k) (fun w=>RowOf 6 elRq w v l) w:=by
 have hl : l.length = n:=by have:=h.1; rw [length_cells6] at this; omega
 subst hl
 exact (rd_owns h).imp fun w h=>rowOf_reqs.2 h

set_option maxRecDepth 100000 in
set_option maxHeartbeats 4000000 in
theorem refCommit_keeps (c u a p : Value) (s : St) (rc rt rk ra ro rn x n : Int) (w : World) (A : Nat → Prop) (h : Rd A (fun w=>elSt w [c,u,a,p] s) w) (hl : s.answers.length ≤ 1000) (hpl : s.past.length ≤ 1000000) :
  Keeps Try.prog 54 #[.agg #[c,u,a,p],RQ ⟨rc,rt,⟨rk,ra,ro,rn⟩⟩,.agg #[I x,I n]] w A (fun r w'=>Agg elSt (commitSt s ⟨rc,rt,⟨rk,ra,ro,rn⟩⟩ ⟨x,n⟩) r w'):=by
 unfold Keeps
 obtain ⟨_,_,_,_,e,h1,h2,h3,h4⟩:=rd_st h
 simp at e
 obtain ⟨rfl,rfl,rfl,rfl⟩:=e
 clear h h2
 obtain ⟨ca,cc,rfl⟩:=row_slice h1.out
 obtain ⟨pa,pc,rfl⟩:=rowOf_slice h4.out
 obtain ⟨aa,ac,rfl,g1,g2,g3⟩:=ans_form h3.out
 unfold maxLen at g2
 have HG:=Lib.hid g3
 have H1:=Lib.hid h1
 have H4:=Lib.hid h4
 clear g3 h1 h3 h4
 have e0 : Ext w (((((w.alloc (.cells #[.slice ca s.cells.length cc,u,.slice aa s.answers.length ac,.slice pa s.past.length pc] 30)).alloc (.cells #[I rc,I rt,I rk,I ra,I ro,I rn] 35)).alloc (.cells #[I x,I n] 38)).alloc (.cells #[.slice none 0 0,.slice none 0 0,.slice none 0 0,.slice none 0 0] 30)).alloc (.cells #[I rc,I rt,I x,I n] 77)):=(((((Ext.refl w).alloc _).alloc _).alloc _).alloc _).alloc _
 have HB:=Lib.hid (fun wx (h : Ext (((((w.alloc (.cells #[.slice ca s.cells.length cc,u,.slice aa s.answers.length ac,.slice pa s.past.length pc] 30)).alloc (.cells #[I rc,I rt,I rk,I ra,I ro,I rn] 35)).alloc (.cells #[I x,I n] 38)).alloc (.cells #[.slice none 0 0,.slice none 0 0,.slice none 0 0,.slice none 0 0] 30)).alloc (.cells #[I rc,I rt,I x,I n] 77)) wx)=>five_blocks h)
 have hsz : (((((w.alloc (.cells #[.slice ca s.cells.length cc,u,.slice aa s.answers.length ac,.slice pa s.past.length pc] 30)).alloc (.cells #[I rc,I rt,I rk,I ra,I ro,I rn] 35)).alloc (.cells #[I x,I n] 38)).alloc (.cells #[.slice none 0 0,.slice none 0 0,.slice none 0 0,.slice none 0 0] 30)).alloc (.cells #[I rc,I rt,I x,I n] 77)).heap.size = w.heap.size + 5:=by simp
 have HSZ:=Lib.hid hsz
 clear hsz
 obtain ⟨i0,hi,hz0,hz1,hz2⟩:=info_parts Try.infoAnswer
 have HI:=Lib.hid hi
 clear hi
 go_enter Try.func54,Try.ntmps54
 go_wp2
 generalize hw1 : ((((w.alloc (.cells #[.slice ca s.cells.length cc,u,.slice aa s.answers.length ac,.slice pa s.past.length pc] 30)).alloc (.cells #[I rc,I rt,I rk,I ra,I ro,I rn] 35)).alloc (.cells #[I x,I n] 38)).alloc (.cells #[.slice none 0 0,.slice none 0 0,.slice none 0 0,.slice none 0 0] 30)).alloc (.cells #[I rc,I rt,I x,I n] 77) = w1 at *
 clear hw1
 go_loopw [8,9,21] (fun o d i wr=>∃ (k : Nat) (m : List An) (db : Bool),k ≤ s.answers.length ∧ i = I k ∧ d = .bool db ∧ PutTo s.answers ⟨rc,rt,⟨x,n⟩⟩ k db m ∧ wr.ownsRow w1.heap.size 77 4 o k (cellsA m) ∧ Ext w1 wr) (fun _ _ i _=>s.answers.length - (intOf i).toNat)
 case atStart=>exact ⟨0,[],false,by omega,rfl,rfl,.inl ⟨rfl,fun x hx=>by simp at hx,by simp⟩,World.ownsRow_nil _ _ _ _,Ext.refl _⟩
 case round =>
  obtain ⟨k,m,db,hk,rfl,rfl,hput,hown,he⟩:=hrel
  by_cases hlt : k < s.answers.length
  ·obtain ⟨y,hy⟩ : ∃ y,s.answers[k]? = some y:=⟨s.answers[k],List.getElem?_eq_getElem hlt⟩
   obtain ⟨b,off,rfl,c0,c1,c2,c3⟩:=HG.out k y hy
   have HY:=Lib.hid hy
   clear hy
   have mr : Ext w wr:=e0.trans he
   replace c0:=mr.cell c0
   replace c1:=mr.cell c1
   replace c2:=mr.cell c2
   replace c3:=mr.cell c3
   obtain ⟨yc,yt,⟨ye,yn⟩⟩:=y
   obtain ⟨-,b1,-,-,b4⟩:=HB.out wr he
   obtain ⟨⟨q0,q1,q2,q3,q4,q5⟩,-⟩:=box6 b1
   obtain ⟨z0,z1,z2,z3,-⟩:=box4 b4
   replace q0:=fun o=>((Ext.refl wr).alloc o).cell q0
   replace z0:=fun o=>((Ext.refl wr).alloc o).cell z0
   replace z1:=fun o=>((Ext.refl wr).alloc o).cell z1
   replace z2:=fun o=>((Ext.refl wr).alloc o).cell z2
   replace z3:=fun o=>((Ext.refl wr).alloc o).cell z3
   have HO:=Lib.hid hown
   have HPT:=Lib.hid hput
   clear hown hput b1 b4 q1 q2 q3 q4 q5
   cases db
   ·by_cases hc : yc = rc
    ·have hb : (yc == rc) = true:=by simpa using hc
     have HC:=Lib.hid hc
     clear hc
     go_wp2_with (at_builtin; refine stop_at ?_)
     unfold Hid
     have hlit:=anss_lit1 (w:=wr) (.cells #[I rc,I rt,I x,I n] 77) 77 ⟨rc,rt,⟨x,n⟩⟩
     have hle:=he.size
     refine wpList_append_row _ rfl (.tmp 35) (.tmp 37) 27 rfl w1.heap.size 77 i0 (.agg #[.int .i64 0,.int .i64 0,.int .i64 0,.int .i64 0]) 4 32 Try.underlying27 HI.out hz0 hz1 hz2 rfl (by decide) u8 k (cellsA m) rfl ((HO.out.alloc _).alloc _) _ rfl 1 _ hlit (cellsA_one _) (by omega) (by decide) (by simp; omega) ?_
     intro v' w' ho hg
     have he2 : Ext w1 w':=((he.alloc _).alloc _).grown hg (fun j hj=>(HO.out.lt j hj).1)
     clear hg hlit c0 c1 c2 c3 q0 z0 z1 z2 z3
     go_wp2
     go_roundw
     case rel=>exact ⟨k + 1,m ++ [⟨rc,rt,⟨x,n⟩⟩],true,by omega,by go_num,rfl,HPT.out.hit HY.out HC.out,by rw [cellsA_append]; exact ho,he2⟩
     case measure=>simp [intOf]; omega
    ·have hb : (yc == rc) = false:=by simpa using hc
     have HC:=Lib.hid hc
     clear hc
     go_wp2_with (at_builtin; refine stop_at ?_)
     unfold Hid
     have hlit:=anss_lit1 (w:=wr) (.cells #[I yc,I yt,I ye,I yn] 77) 77 ⟨yc,yt,⟨ye,yn⟩⟩
     have hle:=he.size
     refine wpList_append_row _ rfl (.tmp 35) (.tmp 37) 27 rfl w1.heap.size 77 i0 (.agg #[.int .i64 0,.int .i64 0,.int .i64 0,.int .i64 0]) 4 32 Try.underlying27 HI.out hz0 hz1 hz2 rfl (by decide) u8 k (cellsA m) rfl ((HO.out.alloc _).alloc _) _ rfl 1 _ hlit (cellsA_one _) (by omega) (by decide) (by simp; omega) ?_
     intro v' w' ho hg
     have he2 : Ext w1 w':=((he.alloc _).alloc _).grown hg (fun j hj=>(HO.out.lt j hj).1)
     clear hg hlit c0 c1 c2 c3 q0 z0 z1 z2 z3
     go_wp2
     go_roundw
     case rel=>exact ⟨k + 1,m ++ [⟨yc,yt,⟨ye,yn⟩⟩],false,by omega,by go_num,rfl,HPT.out.miss HY.out HC.out,by rw [cellsA_append]; exact ho,he2⟩
     case measure=>simp [intOf]; omega
   ·by_cases hc : yc = rc
    ·have hb : (yc == rc) = true:=by simpa using hc
     clear hc
     go_wp2_with (at_builtin; refine stop_at ?_)
     unfold Hid
     have hlit:=anss_lit1 (w:=wr) (.cells #[I yc,I yt,I ye,I yn] 77) 77 ⟨yc,yt,⟨ye,yn⟩⟩
     have hle:=he.size
     refine wpList_append_row _ rfl (.tmp 35) (.tmp 37) 27 rfl w1.heap.size 77 i0 (.agg #[.int .i64 0,.int .i64 0,.int .i64 0,.int .i64 0]) 4 32 Try.underlying27 HI.out hz0 hz1 hz2 rfl (by decide) u8 k (cellsA m) rfl ((HO.out.alloc _).alloc _) _ rfl 1 _ hlit (cellsA_one _) (by omega) (by decide) (by simp; omega) ?_
     intro v' w' ho hg
     have he2 : Ext w1 w':=((he.alloc _).alloc _).grown hg (fun j hj=>(HO.out.lt j hj).1)
     clear hg hlit c0 c1 c2 c3 q0 z0 z1 z2 z3
     go_wp2
     go_roundw
     case rel=>exact ⟨k + 1,m ++ [⟨yc,yt,⟨ye,yn⟩⟩],true,by omega,by go_num,rfl,HPT.out.after HY.out,by rw [cellsA_append]; exact ho,he2⟩
     case measure=>simp [intOf]; omega
    ·have hb : (yc == rc) = false:=by simpa using hc
     clear hc
     go_wp2_with (at_builtin; refine stop_at ?_)
     unfold Hid
     have hlit:=anss_lit1 (w:=wr) (.cells #[I yc,I yt,I ye,I yn] 77) 77 ⟨yc,yt,⟨ye,yn⟩⟩
     have hle:=he.size
     refine wpList_append_row _ rfl (.tmp 35) (.tmp 37) 27 rfl w1.heap.size 77 i0 (.agg #[.int .i64 0,.int .i64 0,.int .i64 0,.int .i64 0]) 4 32 Try.underlying27 HI.out hz0 hz1 hz2 rfl (by decide) u8 k (cellsA m) rfl ((HO.out.alloc _).alloc _) _ rfl 1 _ hlit (cellsA_one _) (by omega) (by decide) (by simp; omega) ?_
     intro v' w' ho hg
     have he2 : Ext w1 w':=((he.alloc _).alloc _).grown hg (fun j hj=>(HO.out.lt j hj).1)
     clear hg hlit c0 c1 c2 c3 q0 z0 z1 z2 z3
     go_wp2
     go_roundw
     case rel=>exact ⟨k + 1,m ++ [⟨yc,yt,⟨ye,yn⟩⟩],true,by omega,by go_num,rfl,HPT.out.after HY.out,by rw [cellsA_append]; exact ho,he2⟩
     case measure=>simp [intOf]; omega
  ·have hkl : k = s.answers.length:=by omega
   subst hkl
   clear hlt hk
   have HO:=Lib.hid hown
   have HPT:=Lib.hid hput
   clear hown hput
   cases db
   ·obtain ⟨b0,b1,-,b3,b4⟩:=HB.out wr he
    obtain ⟨z0,z1,z2,z3,-⟩:=box4 b4
    go_wp2_with (at_builtin; refine stop_at ?_)
    unfold Hid
    have hlit:=anss_lit0 (w:=wr) 77 ⟨rc,rt,⟨x,n⟩⟩
    have hle:=he.size
    refine wpList_append_row _ rfl (.tmp 42) (.tmp 44) 27 rfl w1.heap.size 77 i0 (.agg #[.int .i64 0,.int .i64 0,.int .i64 0,.int .i64 0]) 4 32 Try.underlying27 HI.out hz0 hz1 hz2 rfl (by decide) u8 s.answers.length (cellsA m) rfl (HO.out.alloc _) _ rfl 1 _ hlit (cellsA_one _) (by omega) (by decide) (by simp; omega) ?_
    intro v' wz ho hg
    have he2 : Ext w1 wz:=(he.alloc _).grown hg (fun j hj=>(HO.out.lt j hj).1)
    rw [← cellsA_append,HPT.out.last] at ho
    clear hg hlit z0 z1 z2 z3 b0 b1 b3 b4
    obtain ⟨b0,b1,-,b3,-⟩:=HB.out wz he2
    obtain ⟨x0,x1,x2,x3,-⟩:=box4 b0
    obtain ⟨⟨r0,r1,r2,r3,r4,r5⟩,-⟩:=box6 b1
    clear b0 b1
    obtain ⟨va,vc,hvs⟩:=rowOf_slice (rd_anss ho).out
    subst hvs
    have HO2:=Lib.hid ho
    clear ho
    obtain ⟨i1,hi1,hy0,hy1,hy2⟩:=info_parts Try.infoRequest
    have HI1:=Lib.hid hi1
    clear hi1
    have mz : Ext w wz:=e0.trans he2
    have HP4:=Lib.hid (rowOf_reqs.1 (H4.out.out.ext monoRq mz))
    go_wp2_with fail
    refine wp_region_mono_weak 9 [none,none,none,some (.inr (FullOf wz.heap.size 35 6 0 [])),none,none,some (.inr fun v wx=>wx.ownsRow wz.heap.size 35 6 v (0 + s.past.length) ([] ++ cells6 s.past)),none,some (.inr fun v wx=>Row wx 6 v 1 (cells6 [⟨rc,rt,⟨rk,ra,ro,rn⟩⟩]))] (fun v wx=>wx.ownsRow wz.heap.size 35 6 v (0 + s.past.length + 1) ([] ++ cells6 s.past ++ cells6 [⟨rc,rt,⟨rk,ra,ro,rn⟩⟩])) (by kernel_rfl) (by kernel_rfl) (by kernel_rfl) ?_ (fun v=>monoOwns _ _ _ _ _ v) ?_
    ·exact ⟨trivial,trivial,trivial,monoFull _ _ _ _ _,trivial,trivial,monoOwns _ _ _ _ _,trivial,fun _ _ _ he h=>Row.ext h he,trivial⟩
    iterate 1 (refine wpM_p (fun K hK=>?_); go_simp; first | refine hK _ ?_ | refine ⟨(fun h=>by cases h),hK _ ?_⟩; clear hK K)
    refine wpM_q (.slice ca s.cells.length cc) rfl (fun w' hw'=>by have z0:=hw'.cell x0; go_simp) ?_
    refine wpM_norm (fun K hK=>?_); go_simp; refine hK _ ?_; clear hK K
    iterate 1 (refine wpM_p (fun K hK=>?_); go_simp; first | refine hK _ ?_ | refine ⟨(fun h=>by cases h),hK _ ?_⟩; clear hK K)
    refine wpM_l _ rfl (fun w' hw' hk=>?_) (fun v49=>?_)
    ·have hsz:=hw'.size
     clear hk
     unfold makes
     go_simp
     exact ⟨(Ext.refl _).alloc _,full_lit #[] 0 hsz (by decide) rfl⟩
    refine wpM_norm (fun K hK=>?_); go_simp; refine hK _ ?_; clear hK K
    iterate 1 (refine wpM_p (fun K hK=>?_); go_simp; first | refine hK _ ?_ | refine ⟨(fun h=>by cases h),hK _ ?_⟩; clear hK K)
    refine wpM_q (.slice pa s.past.length pc) rfl (fun w' hw'=>by have z0:=hw'.cell x3; go_simp) ?_
    refine wpM_norm (fun K hK=>?_); go_simp; refine hK _ ?_; clear hK K
    refine wpM_l _ rfl (fun w' hw' hk=>?_) (fun v52=>?_)
    ·have h49 : FullOf wz.heap.size 35 6 0 [] v49 w':=hk 49 (by decide)
     obtain ⟨vv,ww,hrun,hoo,hee⟩:=run_append_full (P:=Try.prog) w' wz.heap.size 28 28 35 i1 _ 6 48 Try.underlying28 HI1.out hy0 hy1 hy2 rfl (by decide) v49 0 _ h49 (.slice pa s.past.length pc) s.past.length _ (HP4.out.ext hw') (cells6_one _) (by omega) (by decide) hw'.size
     exact makes_append rfl rfl rfl hrun hee hoo
    refine wpM_norm (fun K hK=>?_); go_simp; refine hK _ ?_; clear hK K
    refine wpM_q (RQ ⟨rc,rt,⟨rk,ra,ro,rn⟩⟩) rfl (fun w' hw'=>by have z0:=hw'.cell r0; have z1:=hw'.cell r1; have z2:=hw'.cell r2; have z3:=hw'.cell r3; have z4:=hw'.cell r4; have z5:=hw'.cell r5; go_simp) ?_
    refine wpM_norm (fun K hK=>?_); go_simp; refine hK _ ?_; clear hK K
    refine wpM_l _ rfl (fun w' hw' hk=>?_) (fun v54=>?_)
    ·have hsz:=hw'.size
     clear hk
     unfold makes
     go_simp
     exact ⟨(Ext.refl _).alloc _,Row.of_owns (World.ownsRow_lit (base:=0) (size:=6) w' _ 1 (Nat.zero_le _) (by decide) rfl)⟩
    refine wpM_norm (fun K hK=>?_); go_simp; refine hK _ ?_; clear hK K
    refine wpM_nil ⟨_,_,rfl,rfl,rfl,fun w' hw' hk=>?_,fun v55 w5 e5 ho5=>?_⟩
    ·have h52 : w'.ownsRow wz.heap.size 35 6 v52 (0 + s.past.length) ([] ++ cells6 s.past):=hk 52 (by decide)
     have h54 : Row w' 6 v54 1 (cells6 [⟨rc,rt,⟨rk,ra,ro,rn⟩⟩]):=hk 54 (by decide)
     obtain ⟨vv,ww,hrun,hoo,hgg⟩:=run_append_row (P:=Try.prog) w' wz.heap.size 28 28 35 i1 _ 6 48 Try.underlying28 HI1.out hy0 hy1 hy2 rfl (by decide) v52 _ _ h52 v54 1 _ h54 (cells6_one _) (by omega) (by decide) hw'.size
     exact ⟨vv,ww,run_append_op rfl rfl rfl hrun,hw'.grown hgg (fun j hj=>(h52.lt j hj).1),hoo⟩
    clear x0 x1 x2 x3 r0 r1 r2 r3 r4 r5
    have hro : Rd (fun k=>wz.heap.size ≤ k) (fun w=>RowOf 6 elRq w v55 (s.past ++ [⟨rc,rt,⟨rk,ra,ro,rn⟩⟩])) w5:=rd_rqs (by simpa [cells6_append] using ho5)
    obtain ⟨pa2,pc2,hps⟩:=rowOf_slice hro.out
    rw [show (s.past ++ [(⟨rc,rt,⟨rk,ra,ro,rn⟩⟩ : Rq)]).length = s.past.length + 1 by simp] at hps
    subst hps
    have HRO:=Lib.hid hro
    clear hro ho5
    have ez5:=e5
    replace e5 : Ext w1 w5:=he2.trans e5
    obtain ⟨-,-,-,b3,-⟩:=HB.out w5 e5
    obtain ⟨y0,y1,y2,y3,f0,f1,f2,f3⟩:=box4 b3
    go_wp2_with fail
    clear y0 y1 y2 y3 f0 f1 f2 f3
    have b5:=set4 b3 (.slice ca s.cells.length cc) (.slice none 0 0) (.slice va (putAn s.answers ⟨rc,rt,⟨x,n⟩⟩).length vc) (.slice pa2 (s.past.length + 1) pc2)
    obtain ⟨q0,q1,q2,q3,-⟩:=box4 b5
    obtain ⟨B,hB⟩:=away A w.heap.size 5
    have n3 : ¬ B (w.heap.size + 1 + 1 + 1):=hB.2.2.1 _ (by omega) (by omega)
    have m6:=ext_set4 (e0.trans e5) (b:=w.heap.size + 1 + 1 + 1) (by omega) (.slice ca s.cells.length cc) (.slice none 0 0) (.slice va (putAn s.answers ⟨rc,rt,⟨x,n⟩⟩).length vc) (.slice pa2 (s.past.length + 1) pc2)
    have hsz:=HSZ.out
    have hle5:=he2.size
    refine bodyPost_ret (by simp [results,Try.results54,go_sem,q0,q1,q2,q3]; rfl) rfl ?_
    refine ⟨_,rfl,m6,Rd.widen (A:=B) (agg_rd (st_rd (s:=commitSt s ⟨rc,rt,⟨rk,ra,ro,rn⟩⟩ ⟨x,n⟩) ?_ ?_ ?_ ?_)) (fun k _ h=>hB.2.2.2 k h)⟩
    ·exact (((((H1.out.widen hB.1).ext (e0.trans e5)).set n3 _ _).set n3 _ _).set n3 _ _).set n3 _ _
    ·exact Rd.all fun w=>writes_nil w
    ·exact ((((((rd_anss HO2.out).ext ez5).widen (B:=B) (fun k _ h=>hB.2.1 k (by omega))).set n3 _ _).set n3 _ _).set n3 _ _).set n3 _ _
    ·exact ((((HRO.out.widen (B:=B) (fun k _ h=>hB.2.1 k (by omega))).set n3 _ _).set n3 _ _).set n3 _ _).set n3 _ _
   ·have ho:=HO.out
    rw [HPT.out.done] at ho
    obtain ⟨b0,b1,-,b3,-⟩:=HB.out wr he
    obtain ⟨x0,x1,x2,x3,-⟩:=box4 b0
    obtain ⟨⟨r0,r1,r2,r3,r4,r5⟩,-⟩:=box6 b1
    clear b0 b1
    obtain ⟨va,vc,hvs⟩:=rowOf_slice (rd_anss ho).out
    subst hvs
    have HO2:=Lib.hid ho
    clear ho
    obtain ⟨i1,hi1,hy0,hy1,hy2⟩:=info_parts Try.infoRequest
    have HI1:=Lib.hid hi1
    clear hi1
    have mz : Ext w wr:=e0.trans he
    have HP4:=Lib.hid (rowOf_reqs.1 (H4.out.out.ext monoRq mz))
    go_wp2_with fail
    refine wp_region_mono_weak 9 [none,none,none,some (.inr (FullOf wr.heap.size 35 6 0 [])),none,none,some (.inr fun v wx=>wx.ownsRow wr.heap.size 35 6 v (0 + s.past.length) ([] ++ cells6 s.past)),none,some (.inr fun v wx=>Row wx 6 v 1 (cells6 [⟨rc,rt,⟨rk,ra,ro,rn⟩⟩]))] (fun v wx=>wx.ownsRow wr.heap.size 35 6 v (0 + s.past.length + 1) ([] ++ cells6 s.past ++ cells6 [⟨rc,rt,⟨rk,ra,ro,rn⟩⟩])) (by kernel_rfl) (by kernel_rfl) (by kernel_rfl) ?_ (fun v=>monoOwns _ _ _ _ _ v) ?_
    ·exact ⟨trivial,trivial,trivial,monoFull _ _ _ _ _,trivial,trivial,monoOwns _ _ _ _ _,trivial,fun _ _ _ he h=>Row.ext h he,trivial⟩
    iterate 1 (refine wpM_p (fun K hK=>?_); go_simp; first | refine hK _ ?_ | refine ⟨(fun h=>by cases h),hK _ ?_⟩; clear hK K)
    refine wpM_q (.slice ca s.cells.length cc) rfl (fun w' hw'=>by have z0:=hw'.cell x0; go_simp) ?_
    refine wpM_norm (fun K hK=>?_); go_simp; refine hK _ ?_; clear hK K
    iterate 1 (refine wpM_p (fun K hK=>?_); go_simp; first | refine hK _ ?_ | refine ⟨(fun h=>by cases h),hK _ ?_⟩; clear hK K)
    refine wpM_l _ rfl (fun w' hw' hk=>?_) (fun v49=>?_)
    ·have hsz:=hw'.size
     clear hk
     unfold makes
     go_simp
     exact ⟨(Ext.refl _).alloc _,full_lit #[] 0 hsz (by decide) rfl⟩
    refine wpM_norm (fun K hK=>?_); go_simp; refine hK _ ?_; clear hK K
    iterate 1 (refine wpM_p (fun K hK=>?_); go_simp; first | refine hK _ ?_ | refine ⟨(fun h=>by cases h),hK _ ?_⟩; clear hK K)
    refine wpM_q (.slice pa s.past.length pc) rfl (fun w' hw'=>by have z0:=hw'.cell x3; go_simp) ?_
    refine wpM_norm (fun K hK=>?_); go_simp; refine hK _ ?_; clear hK K
    refine wpM_l _ rfl (fun w' hw' hk=>?_) (fun v52=>?_)
    ·have h49 : FullOf wr.heap.size 35 6 0 [] v49 w':=hk 49 (by decide)
     obtain ⟨vv,ww,hrun,hoo,hee⟩:=run_append_full (P:=Try.prog) w' wr.heap.size 28 28 35 i1 _ 6 48 Try.underlying28 HI1.out hy0 hy1 hy2 rfl (by decide) v49 0 _ h49 (.slice pa s.past.length pc) s.past.length _ (HP4.out.ext hw') (cells6_one _) (by omega) (by decide) hw'.size
     exact makes_append rfl rfl rfl hrun hee hoo
    refine wpM_norm (fun K hK=>?_); go_simp; refine hK _ ?_; clear hK K
    refine wpM_q (RQ ⟨rc,rt,⟨rk,ra,ro,rn⟩⟩) rfl (fun w' hw'=>by have z0:=hw'.cell r0; have z1:=hw'.cell r1; have z2:=hw'.cell r2; have z3:=hw'.cell r3; have z4:=hw'.cell r4; have z5:=hw'.cell r5; go_simp) ?_
    refine wpM_norm (fun K hK=>?_); go_simp; refine hK _ ?_; clear hK K
    refine wpM_l _ rfl (fun w' hw' hk=>?_) (fun v54=>?_)
    ·have hsz:=hw'.size
     clear hk
     unfold makes
     go_simp
     exact ⟨(Ext.refl _).alloc _,Row.of_owns (World.ownsRow_lit (base:=0) (size:=6) w' _ 1 (Nat.zero_le _) (by decide) rfl)⟩
    refine wpM_norm (fun K hK=>?_); go_simp; refine hK _ ?_; clear hK K
    refine wpM_nil ⟨_,_,rfl,rfl,rfl,fun w' hw' hk=>?_,fun v55 w5 e5 ho5=>?_⟩
    ·have h52 : w'.ownsRow wr.heap.size 35 6 v52 (0 + s.past.length) ([] ++ cells6 s.past):=hk 52 (by decide)
     have h54 : Row w' 6 v54 1 (cells6 [⟨rc,rt,⟨rk,ra,ro,rn⟩⟩]):=hk 54 (by decide)
     obtain ⟨vv,ww,hrun,hoo,hgg⟩:=run_append_row (P:=Try.prog) w' wr.heap.size 28 28 35 i1 _ 6 48 Try.underlying28 HI1.out hy0 hy1 hy2 rfl (by decide) v52 _ _ h52 v54 1 _ h54 (cells6_one _) (by omega) (by decide) hw'.size
     exact ⟨vv,ww,run_append_op rfl rfl rfl hrun,hw'.grown hgg (fun j hj=>(h52.lt j hj).1),hoo⟩
    clear x0 x1 x2 x3 r0 r1 r2 r3 r4 r5
    have hro : Rd (fun k=>wr.heap.size ≤ k) (fun w=>RowOf 6 elRq w v55 (s.past ++ [⟨rc,rt,⟨rk,ra,ro,rn⟩⟩])) w5:=rd_rqs (by simpa [cells6_append] using ho5)
    obtain ⟨pa2,pc2,hps⟩:=rowOf_slice hro.out
    rw [show (s.past ++ [(⟨rc,rt,⟨rk,ra,ro,rn⟩⟩ : Rq)]).length = s.past.length + 1 by simp] at hps
    subst hps
    have HRO:=Lib.hid hro
    clear hro ho5
    have ez5:=e5
    replace e5 : Ext w1 w5:=he.trans e5
    obtain ⟨-,-,-,b3,-⟩:=HB.out w5 e5
    obtain ⟨y0,y1,y2,y3,f0,f1,f2,f3⟩:=box4 b3
    go_wp2_with fail
    clear y0 y1 y2 y3 f0 f1 f2 f3
    have b5:=set4 b3 (.slice ca s.cells.length cc) (.slice none 0 0) (.slice va (putAn s.answers ⟨rc,rt,⟨x,n⟩⟩).length vc) (.slice pa2 (s.past.length + 1) pc2)
    obtain ⟨q0,q1,q2,q3,-⟩:=box4 b5
    obtain ⟨B,hB⟩:=away A w.heap.size 5
    have n3 : ¬ B (w.heap.size + 1 + 1 + 1):=hB.2.2.1 _ (by omega) (by omega)
    have m6:=ext_set4 (e0.trans e5) (b:=w.heap.size + 1 + 1 + 1) (by omega) (.slice ca s.cells.length cc) (.slice none 0 0) (.slice va (putAn s.answers ⟨rc,rt,⟨x,n⟩⟩).length vc) (.slice pa2 (s.past.length + 1) pc2)
    have hsz:=HSZ.out
    have hle5:=he.size
    refine bodyPost_ret (by simp [results,Try.results54,go_sem,q0,q1,q2,q3]; rfl) rfl ?_
    refine ⟨_,rfl,m6,Rd.widen (A:=B) (agg_rd (st_rd (s:=commitSt s ⟨rc,rt,⟨rk,ra,ro,rn⟩⟩ ⟨x,n⟩) ?_ ?_ ?_ ?_)) (fun k _ h=>hB.2.2.2 k h)⟩
    ·exact (((((H1.out.widen hB.1).ext (e0.trans e5)).set n3 _ _).set n3 _ _).set n3 _ _).set n3 _ _
    ·exact Rd.all fun w=>writes_nil w
    ·exact ((((((rd_anss HO2.out).ext ez5).widen (B:=B) (fun k _ h=>hB.2.1 k (by omega))).set n3 _ _).set n3 _ _).set n3 _ _).set n3 _ _
    ·exact ((((HRO.out.widen (B:=B) (fun k _ h=>hB.2.1 k (by omega))).set n3 _ _).set n3 _ _).set n3 _ _).set n3 _ _

end Go.Proofs.Ytdmipnnfoolelad

namespace Go.Proofs.Ytdmipnnfoolelad
open Go.RowKit Go.Mk

set_option maxHeartbeats 400000 in
theorem has_any (v : Value) (xs : List Int) (i : Int) (w : World) (hv : Ints w v xs) :
  Calls Try.prog 59 #[v,I i] w fun e w'=>e = .returned (.bool (decide (0 ≤ i ∧ i < (xs.length : Int)))) ∧ w' = w:=by
 obtain ⟨ao,cap,rfl,h1,h2,h3⟩:=hv.form
 unfold maxLen at h2
 clear h3 hv
 by_cases hi : 0 ≤ i
 ·go_enter Try.func59,Try.ntmps59
  go_wp2
  go_ret
  exact ⟨by simp [hi],rfl⟩
 ·go_enter Try.func59,Try.ntmps59
  go_wp2
  go_ret
  exact ⟨by simp; omega,rfl⟩

end Go.Proofs.Ytdmipnnfoolelad

namespace Go.Proofs.Ytdmipnnfoolelad
open Go.RowKit Go.Mk

set_option maxRecDepth 100000 in
set_option maxHeartbeats 400000 in
theorem own_any (v : Value) (xs : List Int) (w : World) (hv : Ints w v xs) (hr : xs.length * 8 ≤ 140737488355328) :
  Calls Try.prog 58 #[v] w fun e w'=>e = .returned (.slice (some ⟨w.heap.size,0,none⟩) xs.length xs.length) ∧ w'.ownsRow w.heap.size 3 1 (.slice (some ⟨w.heap.size,0,none⟩) xs.length xs.length) xs.length (xs.map I) ∧ Ext w w':=by
 obtain ⟨i0,hi,hz0,hz1,hz2⟩:=info_parts Try.infoInt
 obtain ⟨hlen,ao,cap,rfl,h1,h2,h0,h3⟩:=hv
 unfold maxLen at h2
 go_enter Try.func58,Try.ntmps58
 go_wp2_with (at_make; refine wpList_make_full _ rfl _ _ 25 rfl w.heap.size 3 i0 (.int .i64 0) 1 Try.underlying25 hi hz0 hz1 .i64 .i64 _ _ xs.length rfl rfl rfl rfl (by rw [hz2]; omega) (by unfold maxLen; omega) (Nat.le_refl _) ?_; intro w1 hown hgrow)
 have he1 : Ext w w1:=(Ext.refl w).grown hgrow (fun k hk=>by cases hk)
 obtain ⟨w2,hrun,hown2,hgrow2⟩:=run_copy_all (P:=Try.prog) w1 25 3 3 Try.underlying25 Try.infoInt1 w.heap.size w.heap.size xs.length _ (xs.map I) _ hown (Row.ext ⟨hlen,ao,cap,rfl,h1,h2,h0,h3⟩ he1) (mapI_one xs)
 have he2 : Ext w w2:=he1.grown hgrow2 (fun k hk=>by cases hk; exact Nat.le_refl _)
 rw [hrun]
 clear hrun hown hgrow hgrow2 he1 h3
 go_wp2
 go_ret
 exact ⟨rfl,hown2,he2⟩

set_option maxRecDepth 100000 in
set_option maxHeartbeats 1000000 in
theorem Set_own (v u : Value) (xs : List Int) (l : List (Int × Int)) (w : World) (hv : Ints w v xs) (hu : Writes w u l) (hr : xs.length * 8 ≤ 140737488355328) (hr2 : l.length * 16 ≤ 140737488355328) :
  Gives Try.prog 40 #[v,u] w fun r w'=>∃ n,w'.ownsRow w.heap.size 3 1 r n ((setAll xs l).map I):=by
 unfold Gives
 obtain ⟨ao,cap,rfl,h1,h2,h3⟩:=hu.form
 unfold maxLen at h2
 go_enter Try.func40,Try.ntmps40
 go_wp2_with fail
 refine (own_any v xs _ hv hr).mono ?_
 rintro e w1 ⟨rfl,hown,he⟩
 generalize hg : w.heap.size = g at hown ⊢
 have HG : Hid (w.heap.size = g):=hg
 clear hg
 go_wp2_with fail
 go_loopw [12] (fun i wr=>∃ k : Nat,k ≤ l.length ∧ i = I k ∧ wr.ownsRow g 3 1 (.slice (some ⟨g,0,none⟩) xs.length xs.length) xs.length ((setAll xs (l.take k)).map I) ∧ Ext w wr) (fun i _=>l.length - (intOf i).toNat)
 case atStart=>exact ⟨0,by omega,rfl,hown,he⟩
 case round =>
  obtain ⟨k,hk,rfl,hown',he'⟩:=hrel
  clear hown he
  by_cases hlt : k < l.length
  ·obtain ⟨b,off,rfl,hc1,hc2⟩:=h3 k hlt
   clear h3
   have hd1:=he'.cell hc1
   have hd2:=he'.cell hc2
   clear hc1 hc2
   generalize hp : l.getD k (0,0) = p at hd1 hd2
   have HP : Hid (l[k]? = some p):=by unfold Hid; rw [← hp]; simp [hlt]
   clear hp
   obtain ⟨at_,n⟩:=p
   simp only [] at hd1 hd2
   have hyl : (setAll xs (l.take k)).length = xs.length:=length_setAll _ _
   have HN : Hid (setAll xs (l.take (k + 1)) = set1 (setAll xs (l.take k)) (at_,n)):=by unfold Hid; rw [List.take_add_one,HP.out]; exact setAll_snoc _ _ _
   generalize setAll xs (l.take k) = ys at hown' HN hyl
   have HYL : Hid (ys.length = xs.length):=hyl
   clear hyl
   have hown2:=fun o=>hown'.alloc o
   have fz : ∀ o,(wr.alloc o).frozen? ⟨g,at_.toNat,none⟩ = false:=fun o=>(hown2 o).frozenAt _
   by_cases hin : 0 ≤ at_ ∧ at_ < (xs.length : Int)
   ·obtain ⟨i1,i2⟩:=hin
    have hc : ∀ o,(wr.alloc o).cell? ⟨g,at_.toNat,none⟩ = some (I (ys.getD at_.toNat 0)):=fun o=>by
     rw [(hown2 o).cellAt _ (by omega)]
     have : at_.toNat < ys.length:=by rw [HYL.out]; omega
     simp [this]
    have i3 : at_ < (ys.length : Int):=by rw [HYL.out]; exact i2
    go_wp2_with (go_at_call 59; refine Calls.same (has_any _ ys at_ _ (ints_of_owns (hown2 _))) ?_)
    go_roundw
    case rel =>
     refine ⟨k + 1,by omega,by go_num,?_,(he'.alloc _).setCell (by rw [HG.out]; exact Nat.le_refl _) _⟩
     rw [HN.out]
     unfold set1
     rw [if_pos ⟨i1,i3⟩,List.map_set]
     exact ((hown2 _).stored _ _).1
    case measure=>simp [intOf]; omega
   ·have hdc : decide (0 ≤ at_ ∧ at_ < (ys.length : Int)) = false:=by rw [HYL.out]; simp; omega
    go_wp2_with (go_at_call 59; refine Calls.same (has_any _ ys at_ _ (ints_of_owns (hown2 _))) ?_)
    go_roundw
    case rel =>
     refine ⟨k + 1,by omega,by go_num,?_,he'.alloc _⟩
     rw [HN.out]
     unfold set1
     rw [if_neg (by rw [HYL.out]; exact hin)]
     exact hown2 _
    case measure=>simp [intOf]; omega
  ·go_wp2_with fail
   go_ret
   refine ⟨_,rfl,he',xs.length,?_⟩
   rw [List.take_of_length_le (by omega)] at hown'
   rw [HG.out]
   exact hown'

end Go.Proofs.Ytdmipnnfoolelad

namespace Go.Proofs.Ytdmipnnfoolelad
open Go.RowKit Go.Mk

end Go.Proofs.Ytdmipnnfoolelad

namespace Go.Proofs.Ytdmipnnfoolelad
open Go.RowKit Go.Mk

end Go.Proofs.Ytdmipnnfoolelad

namespace Go.Proofs.Ytdmipnnfoolelad
open Go.RowKit Go.Mk

set_option maxRecDepth 100000 in
set_option maxHeartbeats 400000 in
theorem own_ints (v : Value) (xs : List Int) (w : World) (hv : Ints w v xs) (hr : xs.length * 8 ≤ 140737488355328) :
  Gives Try.prog 41 #[v] w fun r w'=>w'.ownsRow w.heap.size 3 1 r xs.length (xs.map I):=by
 unfold Gives
 obtain ⟨i0,hi,hz0,hz1,hz2⟩:=info_parts Try.infoInt
 have hsz : (Try.prog.info? 3).map (·.size) = some 1:=by rw [hi]; simp [hz1]
 have hrow : Row w 1 v xs.length (xs.map I):=hv
 clear hv
 obtain ⟨hlen,ao,cap,rfl,h1,h2,h0,h3⟩:=hrow
 unfold maxLen at h2
 go_enter Try.func41,Try.ntmps41
 go_wp2_with (at_make; refine wpList_make_full _ rfl _ _ 25 rfl w.heap.size 3 i0 (.int .i64 0) 1 Try.underlying25 hi hz0 hz1 .i64 .i64 _ _ xs.length rfl rfl rfl rfl (by rw [hz2]; omega) (by unfold maxLen; omega) (Nat.le_refl _) ?_; intro w1 hown hgrow)
 have he1 : Ext w w1:=(Ext.refl w).grown hgrow (fun k hk=>by cases hk)
 obtain ⟨w2,hrun,hown2,hgrow2⟩:=run_copy_sized (P:=Try.prog) w1 25 3 3 1 Try.underlying25 hsz w.heap.size w.heap.size xs.length _ (xs.map I) _ hown (Row.ext ⟨hlen,ao,cap,rfl,h1,h2,h0,h3⟩ he1) (mapI_one xs)
 have he2 : Ext w w2:=he1.grown hgrow2 (fun k hk=>by cases hk; exact Nat.le_refl _)
 rw [hrun]
 clear hrun hown hgrow hgrow2 he1 h3
 go_wp2
 go_ret
 exact ⟨_,rfl,he2,hown2⟩

set_option maxRecDepth 100000 in
set_option maxHeartbeats 400000 in
theorem own_writes (v : Value) (xs : List (Int × Int)) (w : World) (hv : Writes w v xs) (hr : xs.length * 16 ≤ 140737488355328) :
  Gives Try.prog 42 #[v] w fun r w'=>w'.ownsRow w.heap.size 72 2 r xs.length (cells2 xs):=by
 unfold Gives
 obtain ⟨i0,hi,hz0,hz1,hz2⟩:=info_parts Try.infoWrite
 have hsz : (Try.prog.info? 72).map (·.size) = some 2:=by rw [hi]; simp [hz1]
 have hrow : Row w 2 v xs.length (cells2 xs):=hv
 clear hv
 obtain ⟨hlen,ao,cap,rfl,h1,h2,h0,h3⟩:=hrow
 unfold maxLen at h2
 go_enter Try.func42,Try.ntmps42
 go_wp2_with (at_make; refine wpList_make_full _ rfl _ _ 26 rfl w.heap.size 72 i0 (.agg #[.int .i64 0,.int .i64 0]) 2 Try.underlying26 hi hz0 hz1 .i64 .i64 _ _ xs.length rfl rfl rfl rfl (by rw [hz2]; omega) (by unfold maxLen; omega) (Nat.le_refl _) ?_; intro w1 hown hgrow)
 have he1 : Ext w w1:=(Ext.refl w).grown hgrow (fun k hk=>by cases hk)
 obtain ⟨w2,hrun,hown2,hgrow2⟩:=run_copy_sized (P:=Try.prog) w1 26 3 72 2 Try.underlying26 hsz w.heap.size w.heap.size xs.length _ (cells2 xs) _ hown (Row.ext ⟨hlen,ao,cap,rfl,h1,h2,h0,h3⟩ he1) (cells2_one xs)
 have he2 : Ext w w2:=he1.grown hgrow2 (fun k hk=>by cases hk; exact Nat.le_refl _)
 rw [hrun]
 clear hrun hown hgrow hgrow2 he1 h3
 go_wp2
 go_ret
 exact ⟨_,rfl,he2,hown2⟩

set_option maxRecDepth 100000 in
set_option maxHeartbeats 400000 in
theorem own_anss (v : Value) (xs : List An) (w : World) (hv : RowOf 4 elAn w v xs) (hr : xs.length * 32 ≤ 140737488355328) :
  Gives Try.prog 43 #[v] w fun r w'=>w'.ownsRow w.heap.size 77 4 r xs.length (cellsA xs):=by
 unfold Gives
 obtain ⟨i0,hi,hz0,hz1,hz2⟩:=info_parts Try.infoAnswer
 have hsz : (Try.prog.info? 77).map (·.size) = some 4:=by rw [hi]; simp [hz1]
 have hrow : Row w 4 v xs.length (cellsA xs):=(rowOf_flat (f:=fun (x : An)=>[I x.client,I x.token,I x.reply.err,I x.reply.n]) (fun _=>rfl)).1 hv
 clear hv
 obtain ⟨hlen,ao,cap,rfl,h1,h2,h0,h3⟩:=hrow
 unfold maxLen at h2
 go_enter Try.func43,Try.ntmps43
 go_wp2_with (at_make; refine wpList_make_full _ rfl _ _ 27 rfl w.heap.size 77 i0 (.agg #[.int .i64 0,.int .i64 0,.int .i64 0,.int .i64 0]) 4 Try.underlying27 hi hz0 hz1 .i64 .i64 _ _ xs.length rfl rfl rfl rfl (by rw [hz2]; omega) (by unfold maxLen; omega) (Nat.le_refl _) ?_; intro w1 hown hgrow)
 have he1 : Ext w w1:=(Ext.refl w).grown hgrow (fun k hk=>by cases hk)
 obtain ⟨w2,hrun,hown2,hgrow2⟩:=run_copy_sized (P:=Try.prog) w1 27 3 77 4 Try.underlying27 hsz w.heap.size w.heap.size xs.length _ (cellsA xs) _ hown (Row.ext ⟨hlen,ao,cap,rfl,h1,h2,h0,h3⟩ he1) (cellsA_one xs)
 have he2 : Ext w w2:=he1.grown hgrow2 (fun k hk=>by cases hk; exact Nat.le_refl _)
 rw [hrun]
 clear hrun hown hgrow hgrow2 he1 h3
 go_wp2
 go_ret
 exact ⟨_,rfl,he2,hown2⟩

set_option maxRecDepth 100000 in
set_option maxHeartbeats 400000 in
theorem own_reqs (v : Value) (xs : List Rq) (w : World) (hv : RowOf 6 elRq w v xs) (hr : xs.length * 48 ≤ 140737488355328) :
  Gives Try.prog 44 #[v] w fun r w'=>w'.ownsRow w.heap.size 35 6 r xs.length (cells6 xs):=by
 unfold Gives
 obtain ⟨i0,hi,hz0,hz1,hz2⟩:=info_parts Try.infoRequest
 have hsz : (Try.prog.info? 35).map (·.size) = some 6:=by rw [hi]; simp [hz1]
 have hrow : Row w 6 v xs.length (cells6 xs):=rowOf_reqs.1 hv
 clear hv
 obtain ⟨hlen,ao,cap,rfl,h1,h2,h0,h3⟩:=hrow
 unfold maxLen at h2
 go_enter Try.func44,Try.ntmps44
 go_wp2_with (at_make; refine wpList_make_full _ rfl _ _ 28 rfl w.heap.size 35 i0 (.agg #[.int .i64 0,.int .i64 0,.int .i64 0,.int .i64 0,.int .i64 0,.int .i64 0]) 6 Try.underlying28 hi hz0 hz1 .i64 .i64 _ _ xs.length rfl rfl rfl rfl (by rw [hz2]; omega) (by unfold maxLen; omega) (Nat.le_refl _) ?_; intro w1 hown hgrow)
 have he1 : Ext w w1:=(Ext.refl w).grown hgrow (fun k hk=>by cases hk)
 obtain ⟨w2,hrun,hown2,hgrow2⟩:=run_copy_sized (P:=Try.prog) w1 28 3 35 6 Try.underlying28 hsz w.heap.size w.heap.size xs.length _ (cells6 xs) _ hown (Row.ext ⟨hlen,ao,cap,rfl,h1,h2,h0,h3⟩ he1) (cells6_one xs)
 have he2 : Ext w w2:=he1.grown hgrow2 (fun k hk=>by cases hk; exact Nat.le_refl _)
 rw [hrun]
 clear hrun hown hgrow hgrow2 he1 h3
 go_wp2
 go_ret
 exact ⟨_,rfl,he2,hown2⟩

/-- A store in memory of its own. -/
structure OwnSt (base : Nat) (w : World) (c u a p : Value) (s : St) : Prop where
 cells : w.ownsRow base 3 1 c s.cells.length (s.cells.map I)
 undo : w.ownsRow base 72 2 u s.undo.length (cells2 s.undo)
 answers : w.ownsRow base 77 4 a s.answers.length (cellsA s.answers)
 past : w.ownsRow base 35 6 p s.past.length (cells6 s.past)
theorem OwnSt.rd {base : Nat} {w : World} {c u a p : Value} {s : St} (h : OwnSt base w c u a p s) : Rd (fun k=>base ≤ k) (fun w=>elSt w [c,u,a,p] s) w :=
 st_rd (rd_ints h.cells) (rd_writes h.undo) (rd_anss h.answers) (rd_rqs h.past)
theorem OwnSt.ext {base : Nat} {w w' : World} {c u a p : Value} {s : St} (h : OwnSt base w c u a p s) (he : Ext w w') : OwnSt base w' c u a p s :=
 ⟨owns_ext h.cells he,owns_ext h.undo he,owns_ext h.answers he,owns_ext h.past he⟩
theorem owns_low_ne {w : World} {base e size n b : Nat} {v : Value} {xs : List Value} (h : w.ownsRow base e size v n xs) (hb : b < base) : v.ownBlock ≠ some b:=fun e=>by have:=(h.lt b e).1; omega
theorem OwnSt.set {base : Nat} {w : World} {c u a p : Value} {s : St} (h : OwnSt base w c u a p s) {b : Nat} (hb : b < base) (i : Nat) (x : Value) : OwnSt base (w.setCell ⟨b,i,none⟩ x) c u a p s :=
 ⟨owns_setCell h.cells (owns_low_ne h.cells hb) i x,owns_setCell h.undo (owns_low_ne h.undo hb) i x,owns_setCell h.answers (owns_low_ne h.answers hb) i x,owns_setCell h.past (owns_low_ne h.past hb) i x⟩
theorem OwnSt.low {b1 b2 : Nat} {w : World} {c u a p : Value} {s : St} (h : OwnSt b1 w c u a p s) (hle : b2 ≤ b1) : OwnSt b2 w c u a p s:=⟨owns_base h.cells hle,owns_base h.undo hle,owns_base h.answers hle,owns_base h.past hle⟩
theorem own_slice {w : World} {base e size n : Nat} {v : Value} {xs : List Value} (h : w.ownsRow base e size v n xs) : ∃ ao cap,v = .slice ao n cap:=row_slice (Row.of_owns h)

/-- How much a store may hold. -/
def Small (s : St) : Prop:=s.cells.length * 8 ≤ 100000000000000 ∧ s.undo.length * 16 ≤ 100000000000000 ∧ s.answers.length * 32 ≤ 100000000000000 ∧ s.past.length * 48 ≤ 100000000000000

set_option maxRecDepth 100000 in
set_option maxHeartbeats 1000000 in
theorem Own_any (c u a p : Value) (s : St) (w : World) (h : elSt w [c,u,a,p] s) (hs : Small s) :
  Gives Try.prog 24 #[.agg #[c,u,a,p]] w fun r w'=>∃ c' u' a' p',r = .agg #[c',u',a',p'] ∧ OwnSt (w.heap.size + 2) w' c' u' a' p' s:=by
 unfold Gives
 obtain ⟨h1,h2,h3,h4⟩:=st_iff.1 h
 clear h
 have HS:=Lib.hid hs
 clear hs
 unfold Small at HS
 obtain ⟨ca,cc,rfl⟩:=row_slice h1
 obtain ⟨ua,uc,rfl⟩:=row_slice h2
 obtain ⟨aa,ac,rfl⟩:=rowOf_slice h3
 obtain ⟨pa,pc,rfl⟩:=rowOf_slice h4
 generalize hc : Value.slice ca s.cells.length cc = c at *
 generalize hu : Value.slice ua s.undo.length uc = u at *
 generalize ha : Value.slice aa s.answers.length ac = a at *
 generalize hp : Value.slice pa s.past.length pc = p at *
 clear hc hu ha hp
 have e0 : Ext w ((w.alloc (.cells #[c,u,a,p] 30)).alloc (.cells #[.slice none 0 0,.slice none 0 0,.slice none 0 0,.slice none 0 0] 30)):=((Ext.refl w).alloc _).alloc _
 have HB:=Lib.hid (fun wx (h : Ext ((w.alloc (.cells #[c,u,a,p] 30)).alloc (.cells #[.slice none 0 0,.slice none 0 0,.slice none 0 0,.slice none 0 0] 30)) wx)=>And.intro (first_block h) (second_block h))
 have hsz : ((w.alloc (.cells #[c,u,a,p] 30)).alloc (.cells #[.slice none 0 0,.slice none 0 0,.slice none 0 0,.slice none 0 0] 30)).heap.size = w.heap.size + 2:=by simp
 have HSZ:=Lib.hid hsz
 clear hsz
 go_enter Try.func24,Try.ntmps24
 go_wp2_with fail
 generalize hw0 : (w.alloc (.cells #[c,u,a,p] 30)).alloc (.cells #[.slice none 0 0,.slice none 0 0,.slice none 0 0,.slice none 0 0] 30) = w0 at *
 clear hw0
 obtain ⟨b0,-⟩:=HB.out w0 (Ext.refl _)
 obtain ⟨x0,x1,x2,x3,-⟩:=box4 b0
 clear b0
 refine wp_region_mono_tail 12 [none,none,some (.inr (fun v wx=>wx.ownsRow w0.heap.size 3 1 v s.cells.length (s.cells.map I))),none,none,some (.inr (fun v wx=>wx.ownsRow w0.heap.size 72 2 v s.undo.length (cells2 s.undo))),none,none,some (.inr (fun v wx=>wx.ownsRow w0.heap.size 77 4 v s.answers.length (cellsA s.answers))),none,none,some (.inr (fun v wx=>wx.ownsRow w0.heap.size 35 6 v s.past.length (cells6 s.past)))] (by kernel_rfl) (by kernel_rfl) ?_ ?_
 ·exact ⟨trivial,trivial,monoOwns _ _ _ _ _,trivial,trivial,monoOwns _ _ _ _ _,trivial,trivial,monoOwns _ _ _ _ _,trivial,trivial,monoOwns _ _ _ _ _,trivial⟩
 iterate 1 (refine wpM_p (fun K hK=>?_); go_simp; first | refine hK _ ?_ | refine ⟨(fun h=>by cases h),hK _ ?_⟩; clear hK K)
 refine wpM_q (c) rfl (fun w' hw'=>by have q0:=hw'.cell x0; go_simp) ?_
 refine wpM_norm (fun K hK=>?_); go_simp; refine hK _ ?_; clear hK K
 refine wpM_l _ rfl (fun w' hw' hk=>?_) (fun v5=>?_)
 ·have hw2:=e0.trans hw'
  have hle:=hw'.size
  clear hk
  unfold makes
  go_simp
  exact ⟨Ext.refl _,(own_ints c s.cells w' (h1.ext hw2) (by have:=HS.out.1; omega)).mono fun _ _ _ h=>owns_base h hle⟩
 refine wpM_norm (fun K hK=>?_); go_simp; refine hK _ ?_; clear hK K
 iterate 1 (refine wpM_p (fun K hK=>?_); go_simp; first | refine hK _ ?_ | refine ⟨(fun h=>by cases h),hK _ ?_⟩; clear hK K)
 refine wpM_q (u) rfl (fun w' hw'=>by have q0:=hw'.cell x1; go_simp) ?_
 refine wpM_norm (fun K hK=>?_); go_simp; refine hK _ ?_; clear hK K
 refine wpM_l _ rfl (fun w' hw' hk=>?_) (fun v8=>?_)
 ·have hw2:=e0.trans hw'
  have hle:=hw'.size
  clear hk
  unfold makes
  go_simp
  exact ⟨Ext.refl _,(own_writes u s.undo w' (h2.ext hw2) (by have:=HS.out.2.1; omega)).mono fun _ _ _ h=>owns_base h hle⟩
 refine wpM_norm (fun K hK=>?_); go_simp; refine hK _ ?_; clear hK K
 iterate 1 (refine wpM_p (fun K hK=>?_); go_simp; first | refine hK _ ?_ | refine ⟨(fun h=>by cases h),hK _ ?_⟩; clear hK K)
 refine wpM_q (a) rfl (fun w' hw'=>by have q0:=hw'.cell x2; go_simp) ?_
 refine wpM_norm (fun K hK=>?_); go_simp; refine hK _ ?_; clear hK K
 refine wpM_l _ rfl (fun w' hw' hk=>?_) (fun v11=>?_)
 ·have hw2:=e0.trans hw'
  have hle:=hw'.size
  clear hk
  unfold makes
  go_simp
  exact ⟨Ext.refl _,(own_anss a s.answers w' (h3.ext monoAn hw2) (by have:=HS.out.2.2.1; omega)).mono fun _ _ _ h=>owns_base h hle⟩
 refine wpM_norm (fun K hK=>?_); go_simp; refine hK _ ?_; clear hK K
 iterate 1 (refine wpM_p (fun K hK=>?_); go_simp; first | refine hK _ ?_ | refine ⟨(fun h=>by cases h),hK _ ?_⟩; clear hK K)
 refine wpM_q (p) rfl (fun w' hw'=>by have q0:=hw'.cell x3; go_simp) ?_
 refine wpM_norm (fun K hK=>?_); go_simp; refine hK _ ?_; clear hK K
 refine wpM_l _ rfl (fun w' hw' hk=>?_) (fun v14=>?_)
 ·have hw2:=e0.trans hw'
  have hle:=hw'.size
  clear hk
  unfold makes
  go_simp
  exact ⟨Ext.refl _,(own_reqs p s.past w' (h4.ext monoRq hw2) (by have:=HS.out.2.2.2; omega)).mono fun _ _ _ h=>owns_base h hle⟩
 refine wpM_norm (fun K hK=>?_); go_simp; refine hK _ ?_; clear hK K
 refine wpM_nil ?_
 intro w1 e1 hX
 have o0 : w1.ownsRow w0.heap.size 3 1 v5 s.cells.length (s.cells.map I):=hX 5
 have o1 : w1.ownsRow w0.heap.size 72 2 v8 s.undo.length (cells2 s.undo):=hX 8
 have o2 : w1.ownsRow w0.heap.size 77 4 v11 s.answers.length (cellsA s.answers):=hX 11
 have o3 : w1.ownsRow w0.heap.size 35 6 v14 s.past.length (cells6 s.past):=hX 14
 clear hX x0 x1 x2 x3
 have ho : OwnSt w0.heap.size w1 v5 v8 v11 v14 s:=⟨o0,o1,o2,o3⟩
 obtain ⟨ka,kc,hk0⟩:=own_slice o0
 obtain ⟨la,lc,hk1⟩:=own_slice o1
 obtain ⟨ma,mc,hk2⟩:=own_slice o2
 obtain ⟨na,nc,hk3⟩:=own_slice o3
 subst hk0 hk1 hk2 hk3
 clear o0 o1 o2 o3
 have HO:=Lib.hid ho
 clear ho
 obtain ⟨-,b1⟩:=HB.out w1 e1
 obtain ⟨y0,y1,y2,y3,f0,f1,f2,f3⟩:=box4 b1
 go_wp2_with fail
 clear y0 y1 y2 y3 f0 f1 f2 f3
 have b2:=set4 b1 (.slice ka s.cells.length kc) (.slice la s.undo.length lc) (.slice ma s.answers.length mc) (.slice na s.past.length nc)
 obtain ⟨q0,q1,q2,q3,-⟩:=box4 b2
 have m2:=ext_set4 (e0.trans e1) (b:=w.heap.size + 1) (by omega) (.slice ka s.cells.length kc) (.slice la s.undo.length lc) (.slice ma s.answers.length mc) (.slice na s.past.length nc)
 have hlt : w.heap.size + 1 < w0.heap.size:=by rw [HSZ.out]; omega
 refine bodyPost_ret (by simp [results,Try.results24,go_sem,q0,q1,q2,q3]; rfl) rfl ?_
 exact ⟨_,rfl,m2,_,_,_,_,rfl,((((HO.out.set hlt _ _).set hlt _ _).set hlt _ _).set hlt _ _).low (by rw [HSZ.out]; exact Nat.le_refl _)⟩

end Go.Proofs.Ytdmipnnfoolelad

namespace Go.Proofs.Ytdmipnnfoolelad
open Go.RowKit Go.Mk

theorem Try.infoBs : (Try.prog.info? 80).map (fun i=>(i.zero,i.size,i.bytes)) = some (some (.slice none 0 0),1,24):=by kernel_rfl

theorem own_slice' {w : World} {base e size n : Nat} {v : Value} {xs : List Value} (h : w.ownsRow base e size v n xs) : ∃ ao cap,v = .slice ao n cap:=row_slice (Row.of_owns h)

set_option maxRecDepth 100000 in
set_option maxHeartbeats 2000000 in
theorem refServerCome_keeps (gen : Int) (bl : List (List UInt8)) (busy : Bool) (nc nt nk na no nn : Int) (pl : List (Int × Int)) (se sn : Int) (box plan bv : Value) (b : List UInt8) (w : World) (A : Nat → Prop) (hb : Rd A (fun w=>RowOf 1 elBs w box bl) w) (hp : Rd A (fun w=>Writes w plan pl) w) (hv : Rd A (fun w=>Bytes w bv b) w) (hr : bl.length ≤ 1000) :
  Keeps Try.prog 34 #[.agg #[I gen,box,.bool busy,I nc,I nt,I nk,I na,I no,I nn,plan,I se,I sn],bv] w A (fun r w'=>TupE elSv (comeSv ⟨gen,bl,busy,⟨nc,nt,⟨nk,na,no,nn⟩⟩,pl,⟨se,sn⟩⟩ b).1 (comeSv ⟨gen,bl,busy,⟨nc,nt,⟨nk,na,no,nn⟩⟩,pl,⟨se,sn⟩⟩ b).2 r w'):=by
 unfold Keeps
 obtain ⟨ba,bc,rfl⟩:=rowOf_slice hb.out
 obtain ⟨pa,pc,rfl⟩:=row_slice hp.out
 obtain ⟨va,vc,rfl⟩:=row_slice hv.out
 have HB:=Lib.hid hb
 have HP:=Lib.hid hp
 have HV:=Lib.hid hv
 clear hb hp hv
 have e0 : Ext w ((w.alloc (.cells #[I gen,(.slice ba bl.length bc),.bool busy,I nc,I nt,I nk,I na,I no,I nn,(.slice pa pl.length pc),I se,I sn] 40)).alloc (.cells #[I 0,.slice none 0 0,.bool false,I 0,I 0,I 0,I 0,I 0,I 0,.slice none 0 0,I 0,I 0] 40)):=((Ext.refl w).alloc _).alloc _
 by_cases h3 : 3 ≤ bl.length
 case pos =>
  have hX : comeSv ⟨gen,bl,busy,⟨nc,nt,⟨nk,na,no,nn⟩⟩,pl,⟨se,sn⟩⟩ b = (⟨gen,bl,busy,⟨nc,nt,⟨nk,na,no,nn⟩⟩,pl,⟨se,sn⟩⟩,9):=if_pos h3
  rw [hX]
  have hl1 : (3 : Int) ≤ (bl.length : Int):=by omega
  have hl2 : ¬ ((bl.length : Int) < 3):=by omega
  clear hX
  go_enter Try.func34,Try.ntmps34
  go_wp2
  refine bodyPost_ret (by simp [results,Try.results34,go_sem]; rfl) rfl ?_
  exact ⟨_,rfl,((Ext.refl w).alloc _).alloc _,((tupE_rd (sv_rd (v:=⟨gen,bl,busy,⟨nc,nt,⟨nk,na,no,nn⟩⟩,pl,⟨se,sn⟩⟩) HB.out HP.out)).ext (((Ext.refl w).alloc _).alloc _)).widen (fun _ _ h=>.inl h)⟩
 have hX : comeSv ⟨gen,bl,busy,⟨nc,nt,⟨nk,na,no,nn⟩⟩,pl,⟨se,sn⟩⟩ b = (⟨gen,bl ++ [b],busy,⟨nc,nt,⟨nk,na,no,nn⟩⟩,pl,⟨se,sn⟩⟩,0):=if_neg h3
 rw [hX]
 clear hX
 have hl1 : ¬ ((3 : Int) ≤ (bl.length : Int)):=by omega
 have hl2 : (bl.length : Int) < 3:=by omega
 have HR:=Lib.hid hr
 clear hr h3
 obtain ⟨i0,hi,hz0,hz1,hz2⟩:=info_parts Try.infoBs
 have HI:=Lib.hid hi
 clear hi
 obtain ⟨css,hcs,hrow⟩:=rd_rowOf (by decide) HB.out
 have HCS:=Lib.hid hcs
 have HROW:=Lib.hid hrow
 clear hcs hrow
 have HBL:=Lib.hid (fun wx (h : Ext ((w.alloc (.cells #[I gen,(.slice ba bl.length bc),.bool busy,I nc,I nt,I nk,I na,I no,I nn,(.slice pa pl.length pc),I se,I sn] 40)).alloc (.cells #[I 0,.slice none 0 0,.bool false,I 0,I 0,I 0,I 0,I 0,I 0,.slice none 0 0,I 0,I 0] 40)) wx)=>And.intro (first_block h) (second_block h))
 have hsz : ((w.alloc (.cells #[I gen,(.slice ba bl.length bc),.bool busy,I nc,I nt,I nk,I na,I no,I nn,(.slice pa pl.length pc),I se,I sn] 40)).alloc (.cells #[I 0,.slice none 0 0,.bool false,I 0,I 0,I 0,I 0,I 0,I 0,.slice none 0 0,I 0,I 0] 40)).heap.size = w.heap.size + 2:=by simp
 have HSZ:=Lib.hid hsz
 clear hsz
 obtain ⟨B,hB⟩:=away A w.heap.size 2
 have HK:=Lib.hid hB
 clear hB
 have HONES:=Lib.hid (HCS.out.out.ones oneBs)
 go_enter Try.func34,Try.ntmps34
 go_wp2_with (at_builtin; refine stop_at ?_)
 unfold Hid
 generalize hw0 : (w.alloc (.cells #[I gen,(.slice ba bl.length bc),.bool busy,I nc,I nt,I nk,I na,I no,I nn,(.slice pa pl.length pc),I se,I sn] 40)).alloc (.cells #[I 0,.slice none 0 0,.bool false,I 0,I 0,I 0,I 0,I 0,I 0,.slice none 0 0,I 0,I 0] 40) = w0 at *
 clear hw0
 have hz:=HSZ.out
 have hem:=World.ownsRow_lit (base:=w0.heap.size) (e:=80) (size:=1) w0 #[] 0 (Nat.le_refl _) (by decide) rfl
 rw [hz] at hem
 refine wpList_append_row _ rfl (.tmp 11) (.tmp 13) 31 rfl (w.heap.size + 2) 80 i0 (.slice none 0 0) 1 24 Try.underlying31 HI.out hz0 hz1 hz2 rfl (by decide) (.slice (some ⟨w.heap.size + 2,0,none⟩) 0 0) 0 [] rfl hem _ rfl bl.length css.flatten (HROW.out.ext (e0.alloc _)) HONES.out (by have:=HR.out; omega) (by decide) (by simp; omega) ?_
 intro v1 w1 ho1 hg1
 simp only [Nat.zero_add,List.nil_append] at ho1
 have e1 : Ext w0 w1:=((Ext.refl w0).alloc (.cells #[] 80)).grown hg1 (fun k hk=>by (have h5 : w.heap.size + 2 = k:=by simpa [Value.ownBlock] using hk); omega)
 clear hem hg1
 go_wp2_with (at_builtin; refine stop_at ?_)
 unfold Hid
 have hone : Row (w1.alloc (.cells #[.slice va b.length vc] 80)) 1 (.slice (some ⟨w1.heap.size,0,none⟩) 1 1) 1 [.slice va b.length vc]:=Row.of_owns (World.ownsRow_lit (base:=0) (e:=80) (size:=1) w1 #[.slice va b.length vc] 1 (Nat.zero_le _) (by decide) rfl)
 have hs1:=e1.size
 refine wpList_append_row _ rfl (.tmp 14) (.tmp 16) 31 rfl (w.heap.size + 2) 80 i0 (.slice none 0 0) 1 24 Try.underlying31 HI.out hz0 hz1 hz2 rfl (by decide) v1 bl.length css.flatten rfl (owns_ext ho1 ((Ext.refl w1).alloc _)) _ rfl 1 _ hone (fun u hu=>by simp at hu; rw [hu]; rfl) (by have:=HR.out; omega) (by decide) (by simp; omega) ?_
 intro v2 w2 ho2 hg2
 have e2 : Ext w0 w2:=(e1.alloc (.cells #[.slice va b.length vc] 80)).grown hg2 (fun k hk=>by have:=(ho1.lt k hk).1; omega)
 clear hone hg2 ho1 hs1
 have ho2 : w2.ownsRow (w.heap.size + 2) 80 1 v2 (bl.length + 1) (css ++ [[Value.slice va b.length vc]]).flatten:=by simpa using ho2
 have k1 : Rd B (fun w=>RowOf 1 elBs w v2 (bl ++ [b])) w2:=by
  refine rd_own_of (fun k h _=>HK.out.2.1 k h) (Rd.snoc ((HCS.out.widen HK.out.1).ext (e0.trans e2)) ?_ rfl) ho2 (by decide)
  exact ((HV.out.widen HK.out.1).ext (e0.trans e2)).imp fun w h=>⟨_,rfl,h⟩
 obtain ⟨qa,qc,hqs⟩:=own_slice' ho2
 subst hqs
 have K1:=Lib.hid k1
 clear ho2 k1
 obtain ⟨b0,b1⟩:=HBL.out w2 e2
 have x0:=cells_at b0
 have f0:=frozen_at b0
 have y0:=cells_at b1
 have g0:=frozen_at b1
 go_wp2
 clear x0 f0 y0 g0
 have n0 : ¬ B w.heap.size:=HK.out.2.2.1 _ (Nat.le_refl _) (by omega)
 have n1 : ¬ B (w.heap.size + 1):=HK.out.2.2.1 _ (by omega) (by omega)
 have b2:=put_all (block_set (i:=1) (x:=(.slice qa (bl.length + 1) qc)) b1 (Nat.succ_ne_self w.heap.size)) [I gen,(.slice qa (bl.length + 1) qc),.bool busy,I nc,I nt,I nk,I na,I no,I nn,(.slice pa pl.length pc),I se,I sn] rfl
 have ew:=Ext.put (b:=w.heap.size + 1) (by omega) [I gen,(.slice qa (bl.length + 1) qc),.bool busy,I nc,I nt,I nk,I na,I no,I nn,(.slice pa pl.length pc),I se,I sn] ((e0.trans e2).setCell (p:=⟨w.heap.size,1,none⟩) (Nat.le_refl _) (.slice qa (bl.length + 1) qc)) 0
 have r1:=Rd.put n1 [I gen,(.slice qa (bl.length + 1) qc),.bool busy,I nc,I nt,I nk,I na,I no,I nn,(.slice pa pl.length pc),I se,I sn] (K1.out.set n0 1 (.slice qa (bl.length + 1) qc)) 0
 have rHP:=Rd.put n1 [I gen,(.slice qa (bl.length + 1) qc),.bool busy,I nc,I nt,I nk,I na,I no,I nn,(.slice pa pl.length pc),I se,I sn] (((HP.out.widen HK.out.1).ext (e0.trans e2)).set n0 1 (.slice qa (bl.length + 1) qc)) 0
 generalize hwz : ((((((((((((w2.setCell ⟨w.heap.size,1,none⟩ (.slice qa (bl.length + 1) qc)).setCell ⟨w.heap.size + 1,0,none⟩ (I gen)).setCell ⟨w.heap.size + 1,1,none⟩ (.slice qa (bl.length + 1) qc)).setCell ⟨w.heap.size + 1,2,none⟩ (.bool busy)).setCell ⟨w.heap.size + 1,3,none⟩ (I nc)).setCell ⟨w.heap.size + 1,4,none⟩ (I nt)).setCell ⟨w.heap.size + 1,5,none⟩ (I nk)).setCell ⟨w.heap.size + 1,6,none⟩ (I na)).setCell ⟨w.heap.size + 1,7,none⟩ (I no)).setCell ⟨w.heap.size + 1,8,none⟩ (I nn)).setCell ⟨w.heap.size + 1,9,none⟩ (.slice pa pl.length pc)).setCell ⟨w.heap.size + 1,10,none⟩ (I se)).setCell ⟨w.heap.size + 1,11,none⟩ (I sn) = wz
 replace hwz : putN (w2.setCell ⟨w.heap.size,1,none⟩ (.slice qa (bl.length + 1) qc)) (w.heap.size + 1) 0 [I gen,(.slice qa (bl.length + 1) qc),.bool busy,I nc,I nt,I nk,I na,I no,I nn,(.slice pa pl.length pc),I se,I sn] = wz:=hwz
 rw [hwz] at b2 ew r1 rHP
 have q0:=cells_at b2
 clear hwz
 refine bodyPost_ret (by simp [results,Try.results34,go_sem,q0]; rfl) rfl ?_
 exact ⟨_,rfl,ew,Rd.widen (A:=B) (tupE_rd (sv_rd (v:=⟨gen,bl ++ [b],busy,⟨nc,nt,⟨nk,na,no,nn⟩⟩,pl,⟨se,sn⟩⟩) r1 rHP)) (fun k _ h=>HK.out.2.2.2 k h)⟩

set_option maxRecDepth 100000 in
set_option maxHeartbeats 2000000 in
theorem refClientCome_keeps (cl : List Cl) (at_ : Int) (sent : Bool) (gen : Int) (bl : List (List UInt8)) (gl : List Rp) (calls box got bv : Value) (b : List UInt8) (w : World) (A : Nat → Prop) (hc : Rd A (fun w=>RowOf 4 elCl w calls cl) w) (hb : Rd A (fun w=>RowOf 1 elBs w box bl) w) (hg : Rd A (fun w=>RowOf 2 elRp w got gl) w) (hv : Rd A (fun w=>Bytes w bv b) w) (hr : bl.length ≤ 1000) :
  Keeps Try.prog 37 #[.agg #[calls,I at_,.bool sent,I gen,box,got],bv] w A (fun r w'=>Agg elCn (comeCn ⟨cl,at_,sent,gen,bl,gl⟩ b) r w'):=by
 unfold Keeps
 obtain ⟨ba,bc,rfl⟩:=rowOf_slice hb.out
 obtain ⟨ca,cc,rfl⟩:=rowOf_slice hc.out
 obtain ⟨ga,gc,rfl⟩:=rowOf_slice hg.out
 obtain ⟨va,vc,rfl⟩:=row_slice hv.out
 have HC:=Lib.hid hc
 have HB:=Lib.hid hb
 have HG:=Lib.hid hg
 have HV:=Lib.hid hv
 clear hc hb hg hv
 have e0 : Ext w ((w.alloc (.cells #[(.slice ca cl.length cc),I at_,.bool sent,I gen,(.slice ba bl.length bc),(.slice ga gl.length gc)] 67)).alloc (.cells #[.slice none 0 0,I 0,.bool false,I 0,.slice none 0 0,.slice none 0 0] 67)):=((Ext.refl w).alloc _).alloc _
 by_cases h3 : 3 ≤ bl.length
 case pos =>
  have hX : comeCn ⟨cl,at_,sent,gen,bl,gl⟩ b = ⟨cl,at_,sent,gen,bl,gl⟩:=if_neg (by show ¬ bl.length < 3; omega)
  rw [hX]
  have hl1 : (3 : Int) ≤ (bl.length : Int):=by omega
  have hl2 : ¬ ((bl.length : Int) < 3):=by omega
  clear hX
  go_enter Try.func37,Try.ntmps37
  go_wp2
  refine bodyPost_ret (by simp [results,Try.results37,go_sem]; rfl) rfl ?_
  exact ⟨_,rfl,((Ext.refl w).alloc _).alloc _,((agg_rd (cn_rd (c:=⟨cl,at_,sent,gen,bl,gl⟩) HC.out HB.out HG.out)).ext (((Ext.refl w).alloc _).alloc _)).widen (fun _ _ h=>.inl h)⟩
 have hX : comeCn ⟨cl,at_,sent,gen,bl,gl⟩ b = ⟨cl,at_,sent,gen,bl ++ [b],gl⟩:=if_pos (by show bl.length < 3; omega)
 rw [hX]
 clear hX
 have hl1 : ¬ ((3 : Int) ≤ (bl.length : Int)):=by omega
 have hl2 : (bl.length : Int) < 3:=by omega
 have HR:=Lib.hid hr
 clear hr h3
 obtain ⟨i0,hi,hz0,hz1,hz2⟩:=info_parts Try.infoBs
 have HI:=Lib.hid hi
 clear hi
 obtain ⟨css,hcs,hrow⟩:=rd_rowOf (by decide) HB.out
 have HCS:=Lib.hid hcs
 have HROW:=Lib.hid hrow
 clear hcs hrow
 have HBL:=Lib.hid (fun wx (h : Ext ((w.alloc (.cells #[(.slice ca cl.length cc),I at_,.bool sent,I gen,(.slice ba bl.length bc),(.slice ga gl.length gc)] 67)).alloc (.cells #[.slice none 0 0,I 0,.bool false,I 0,.slice none 0 0,.slice none 0 0] 67)) wx)=>And.intro (first_block h) (second_block h))
 have hsz : ((w.alloc (.cells #[(.slice ca cl.length cc),I at_,.bool sent,I gen,(.slice ba bl.length bc),(.slice ga gl.length gc)] 67)).alloc (.cells #[.slice none 0 0,I 0,.bool false,I 0,.slice none 0 0,.slice none 0 0] 67)).heap.size = w.heap.size + 2:=by simp
 have HSZ:=Lib.hid hsz
 clear hsz
 obtain ⟨B,hB⟩:=away A w.heap.size 2
 have HK:=Lib.hid hB
 clear hB
 have HONES:=Lib.hid (HCS.out.out.ones oneBs)
 go_enter Try.func37,Try.ntmps37
 go_wp2_with (at_builtin; refine stop_at ?_)
 unfold Hid
 generalize hw0 : (w.alloc (.cells #[(.slice ca cl.length cc),I at_,.bool sent,I gen,(.slice ba bl.length bc),(.slice ga gl.length gc)] 67)).alloc (.cells #[.slice none 0 0,I 0,.bool false,I 0,.slice none 0 0,.slice none 0 0] 67) = w0 at *
 clear hw0
 have hz:=HSZ.out
 have hem:=World.ownsRow_lit (base:=w0.heap.size) (e:=80) (size:=1) w0 #[] 0 (Nat.le_refl _) (by decide) rfl
 rw [hz] at hem
 refine wpList_append_row _ rfl (.tmp 9) (.tmp 11) 31 rfl (w.heap.size + 2) 80 i0 (.slice none 0 0) 1 24 Try.underlying31 HI.out hz0 hz1 hz2 rfl (by decide) (.slice (some ⟨w.heap.size + 2,0,none⟩) 0 0) 0 [] rfl hem _ rfl bl.length css.flatten (HROW.out.ext (e0.alloc _)) HONES.out (by have:=HR.out; omega) (by decide) (by simp; omega) ?_
 intro v1 w1 ho1 hg1
 simp only [Nat.zero_add,List.nil_append] at ho1
 have e1 : Ext w0 w1:=((Ext.refl w0).alloc (.cells #[] 80)).grown hg1 (fun k hk=>by (have h5 : w.heap.size + 2 = k:=by simpa [Value.ownBlock] using hk); omega)
 clear hem hg1
 go_wp2_with (at_builtin; refine stop_at ?_)
 unfold Hid
 have hone : Row (w1.alloc (.cells #[.slice va b.length vc] 80)) 1 (.slice (some ⟨w1.heap.size,0,none⟩) 1 1) 1 [.slice va b.length vc]:=Row.of_owns (World.ownsRow_lit (base:=0) (e:=80) (size:=1) w1 #[.slice va b.length vc] 1 (Nat.zero_le _) (by decide) rfl)
 have hs1:=e1.size
 refine wpList_append_row _ rfl (.tmp 12) (.tmp 14) 31 rfl (w.heap.size + 2) 80 i0 (.slice none 0 0) 1 24 Try.underlying31 HI.out hz0 hz1 hz2 rfl (by decide) v1 bl.length css.flatten rfl (owns_ext ho1 ((Ext.refl w1).alloc _)) _ rfl 1 _ hone (fun u hu=>by simp at hu; rw [hu]; rfl) (by have:=HR.out; omega) (by decide) (by simp; omega) ?_
 intro v2 w2 ho2 hg2
 have e2 : Ext w0 w2:=(e1.alloc (.cells #[.slice va b.length vc] 80)).grown hg2 (fun k hk=>by have:=(ho1.lt k hk).1; omega)
 clear hone hg2 ho1 hs1
 have ho2 : w2.ownsRow (w.heap.size + 2) 80 1 v2 (bl.length + 1) (css ++ [[Value.slice va b.length vc]]).flatten:=by simpa using ho2
 have k1 : Rd B (fun w=>RowOf 1 elBs w v2 (bl ++ [b])) w2:=by
  refine rd_own_of (fun k h _=>HK.out.2.1 k h) (Rd.snoc ((HCS.out.widen HK.out.1).ext (e0.trans e2)) ?_ rfl) ho2 (by decide)
  exact ((HV.out.widen HK.out.1).ext (e0.trans e2)).imp fun w h=>⟨_,rfl,h⟩
 obtain ⟨qa,qc,hqs⟩:=own_slice' ho2
 subst hqs
 have K1:=Lib.hid k1
 clear ho2 k1
 obtain ⟨b0,b1⟩:=HBL.out w2 e2
 have x0:=cells_at b0
 have f0:=frozen_at b0
 have y0:=cells_at b1
 have g0:=frozen_at b1
 go_wp2
 clear x0 f0 y0 g0
 have n0 : ¬ B w.heap.size:=HK.out.2.2.1 _ (Nat.le_refl _) (by omega)
 have n1 : ¬ B (w.heap.size + 1):=HK.out.2.2.1 _ (by omega) (by omega)
 have b2:=put_all (block_set (i:=4) (x:=(.slice qa (bl.length + 1) qc)) b1 (Nat.succ_ne_self w.heap.size)) [(.slice ca cl.length cc),I at_,.bool sent,I gen,(.slice qa (bl.length + 1) qc),(.slice ga gl.length gc)] rfl
 have ew:=Ext.put (b:=w.heap.size + 1) (by omega) [(.slice ca cl.length cc),I at_,.bool sent,I gen,(.slice qa (bl.length + 1) qc),(.slice ga gl.length gc)] ((e0.trans e2).setCell (p:=⟨w.heap.size,4,none⟩) (Nat.le_refl _) (.slice qa (bl.length + 1) qc)) 0
 have r1:=Rd.put n1 [(.slice ca cl.length cc),I at_,.bool sent,I gen,(.slice qa (bl.length + 1) qc),(.slice ga gl.length gc)] (K1.out.set n0 4 (.slice qa (bl.length + 1) qc)) 0
 have rHC:=Rd.put n1 [(.slice ca cl.length cc),I at_,.bool sent,I gen,(.slice qa (bl.length + 1) qc),(.slice ga gl.length gc)] (((HC.out.widen HK.out.1).ext (e0.trans e2)).set n0 4 (.slice qa (bl.length + 1) qc)) 0
 have rHG:=Rd.put n1 [(.slice ca cl.length cc),I at_,.bool sent,I gen,(.slice qa (bl.length + 1) qc),(.slice ga gl.length gc)] (((HG.out.widen HK.out.1).ext (e0.trans e2)).set n0 4 (.slice qa (bl.length + 1) qc)) 0
 generalize hwz : ((((((w2.setCell ⟨w.heap.size,4,none⟩ (.slice qa (bl.length + 1) qc)).setCell ⟨w.heap.size + 1,0,none⟩ (.slice ca cl.length cc)).setCell ⟨w.heap.size + 1,1,none⟩ (I at_)).setCell ⟨w.heap.size + 1,2,none⟩ (.bool sent)).setCell ⟨w.heap.size + 1,3,none⟩ (I gen)).setCell ⟨w.heap.size + 1,4,none⟩ (.slice qa (bl.length + 1) qc)).setCell ⟨w.heap.size + 1,5,none⟩ (.slice ga gl.length gc) = wz
 replace hwz : putN (w2.setCell ⟨w.heap.size,4,none⟩ (.slice qa (bl.length + 1) qc)) (w.heap.size + 1) 0 [(.slice ca cl.length cc),I at_,.bool sent,I gen,(.slice qa (bl.length + 1) qc),(.slice ga gl.length gc)] = wz:=hwz
 rw [hwz] at b2 ew r1 rHC rHG
 have q0:=cells_at b2
 clear hwz
 refine bodyPost_ret (by simp [results,Try.results37,go_sem,q0]; rfl) rfl ?_
 exact ⟨_,rfl,ew,Rd.widen (A:=B) (agg_rd (cn_rd (c:=⟨cl,at_,sent,gen,bl ++ [b],gl⟩) rHC r1 rHG)) (fun k _ h=>HK.out.2.2.2 k h)⟩

end Go.Proofs.Ytdmipnnfoolelad

namespace Go.Proofs.Ytdmipnnfoolelad
open Go.RowKit Go.Mk

theorem bss_formV {w : World} {v : Value} {l : List (List UInt8)} (h : RowOf 1 elBs w v l) : ∃ ao cap,v = .slice ao l.length cap ∧ l.length ≤ cap ∧ cap ≤ maxLen ∧
  ∀ k x,l[k]? = some x → ∃ b off bv,ao = some ⟨b,off,none⟩ ∧ w.cell? ⟨b,off + k,none⟩ = some bv ∧ Bytes w bv x:=by
 obtain ⟨ao,cap,h1,h2,h3,-,h5⟩:=h.form (by decide)
 refine ⟨ao,cap,h1,h2,h3,fun k x hx=>?_⟩
 obtain ⟨b,off,c,e,-,⟨bv,rfl,hb⟩,hcell⟩:=h5 k x hx
 refine ⟨b,off,bv,e,?_,hb⟩
 have:=hcell 0 bv rfl
 rwa [Nat.mul_one,Nat.add_zero] at this

set_option maxRecDepth 100000 in
set_option maxHeartbeats 400000 in
theorem own_bytesV (v : Value) (xs : List UInt8) (w : World) (hv : Bytes w v xs) (hr : xs.length ≤ 140737488355328) :
  Gives Try.prog 60 #[v] w fun r w'=>w'.ownsRow w.heap.size 5 1 r xs.length (xs.map U):=by
 unfold Gives
 obtain ⟨i0,hi,hz0,hz1,hz2⟩:=info_parts Try.infoByte
 have hsz : (Try.prog.info? 5).map (·.size) = some 1:=by rw [hi]; simp [hz1]
 have hrow : Row w 1 v xs.length (xs.map U):=hv
 clear hv
 obtain ⟨hlen,ao,cap,rfl,h1,h2,h0,h3⟩:=hrow
 unfold maxLen at h2
 go_enter Try.func60,Try.ntmps60
 go_wp2_with (at_make; refine wpList_make_full _ rfl _ _ 80 rfl w.heap.size 5 i0 (.int .u8 0) 1 Try.underlying80 hi hz0 hz1 .i64 .i64 _ _ xs.length rfl rfl rfl rfl (by rw [hz2]; omega) (by unfold maxLen; omega) (Nat.le_refl _) ?_; intro w1 hown hgrow)
 have he1 : Ext w w1:=(Ext.refl w).grown hgrow (fun k hk=>by cases hk)
 obtain ⟨w2,hrun,hown2,hgrow2⟩:=run_copy_sized (P:=Try.prog) w1 80 3 5 1 Try.underlying80 hsz w.heap.size w.heap.size xs.length _ (xs.map U) _ hown (Row.ext ⟨hlen,ao,cap,rfl,h1,h2,h0,h3⟩ he1) (mapU_one xs)
 have he2 : Ext w w2:=he1.grown hgrow2 (fun k hk=>by cases hk; exact Nat.le_refl _)
 rw [hrun]
 clear hrun hown hgrow hgrow2 he1 h3
 go_wp2
 go_ret
 exact ⟨_,rfl,he2,hown2⟩

set_option maxRecDepth 100000 in
set_option maxHeartbeats 400000 in
theorem own_writesV (v : Value) (xs : List (Int × Int)) (w : World) (hv : Writes w v xs) (hr : xs.length * 16 ≤ 140737488355328) :
  Gives Try.prog 46 #[v] w fun r w'=>w'.ownsRow w.heap.size 72 2 r xs.length (cells2 xs):=by
 unfold Gives
 obtain ⟨i0,hi,hz0,hz1,hz2⟩:=info_parts Try.infoWrite
 have hsz : (Try.prog.info? 72).map (·.size) = some 2:=by rw [hi]; simp [hz1]
 have hrow : Row w 2 v xs.length (cells2 xs):=hv
 clear hv
 obtain ⟨hlen,ao,cap,rfl,h1,h2,h0,h3⟩:=hrow
 unfold maxLen at h2
 go_enter Try.func46,Try.ntmps46
 go_wp2_with (at_make; refine wpList_make_full _ rfl _ _ 26 rfl w.heap.size 72 i0 (.agg #[.int .i64 0,.int .i64 0]) 2 Try.underlying26 hi hz0 hz1 .i64 .i64 _ _ xs.length rfl rfl rfl rfl (by rw [hz2]; omega) (by unfold maxLen; omega) (Nat.le_refl _) ?_; intro w1 hown hgrow)
 have he1 : Ext w w1:=(Ext.refl w).grown hgrow (fun k hk=>by cases hk)
 obtain ⟨w2,hrun,hown2,hgrow2⟩:=run_copy_sized (P:=Try.prog) w1 26 3 72 2 Try.underlying26 hsz w.heap.size w.heap.size xs.length _ (cells2 xs) _ hown (Row.ext ⟨hlen,ao,cap,rfl,h1,h2,h0,h3⟩ he1) (cells2_one xs)
 have he2 : Ext w w2:=he1.grown hgrow2 (fun k hk=>by cases hk; exact Nat.le_refl _)
 rw [hrun]
 clear hrun hown hgrow hgrow2 he1 h3
 go_wp2
 go_ret
 exact ⟨_,rfl,he2,hown2⟩

/-- A box of bytes in memory of its own. -/
def OwnBox (base : Nat) (w : World) (u : Value) (bl : List (List UInt8)) : Prop:=∃ evs : List Value,w.ownsRow base 80 1 u bl.length evs ∧ ∀ (i : Nat) (b : List UInt8),bl[i]? = some b → ∃ ev,evs[i]? = some ev ∧ w.ownsRow base 5 1 ev b.length (b.map U)

set_option maxRecDepth 100000 in
set_option maxHeartbeats 1000000 in
theorem ownBox_any (v : Value) (bl : List (List UInt8)) (w : World) (hv : RowOf 1 elBs w v bl) (h1 : bl.length * 24 ≤ 140737488355328) (h2 : ∀ b ∈ bl,b.length ≤ 140737488355328) :
  Gives Try.prog 45 #[v] w fun r w'=>OwnBox w.heap.size w' r bl ∧ ∃ g,r = .slice (some ⟨g,0,none⟩) bl.length bl.length:=by
 unfold Gives
 obtain ⟨i0,hi,hz0,hz1,hz2⟩:=info_parts Try.infoBs
 obtain ⟨ao,cap,rfl,g1,g2,g3⟩:=bss_formV hv
 unfold maxLen at g2
 have G3:=Lib.hid g3
 have H2:=Lib.hid h2
 clear hv g3 h2
 go_enter Try.func45,Try.ntmps45
 go_wp2_with (at_make; refine wpList_make_full _ rfl _ _ 31 rfl w.heap.size 80 i0 (.slice none 0 0) 1 Try.underlying31 hi hz0 hz1 .i64 .i64 _ _ bl.length rfl rfl rfl rfl (by rw [hz2]; omega) (by unfold maxLen; omega) (Nat.le_refl _) ?_; intro w1 hown hgrow)
 have he1 : Ext w w1:=(Ext.refl w).grown hgrow (fun k hk=>by cases hk)
 clear hgrow hi hz0 hz1 hz2
 generalize hg : w.heap.size = g at *
 have HG:=Lib.hid hg
 clear hg
 have HO:=Lib.hid hown
 clear hown
 go_wp2_with fail
 go_loopw [11] (fun i wr=>∃ (k : Nat) (evs : List Value),k ≤ bl.length ∧ i = I k ∧ wr.ownsRow g 80 1 (.slice (some ⟨g,0,none⟩) bl.length bl.length) bl.length evs ∧ (∀ (j : Nat) (b : List UInt8),j < k → bl[j]? = some b → ∃ ev,evs[j]? = some ev ∧ wr.ownsRow g 5 1 ev b.length (b.map U)) ∧ Ext w wr) (fun i _=>bl.length - (intOf i).toNat)
 case atStart=>exact ⟨0,_,Nat.zero_le _,rfl,HO.out,fun j b hj=>by omega,he1⟩
 case round =>
  obtain ⟨k,evs,hk,rfl,ho,hall,he⟩:=hrel
  have HALL:=Lib.hid hall
  clear hall he1 HO
  by_cases hlt : k < bl.length
  ·obtain ⟨x,hx⟩ : ∃ x,bl[k]? = some x:=⟨bl[k],List.getElem?_eq_getElem hlt⟩
   obtain ⟨xb,xo,bv,rfl,hcell,hby⟩:=G3.out k x hx
   have hxl:=H2.out x (List.mem_of_getElem? hx)
   have HX:=Lib.hid hx
   clear hx
   replace hcell:=he.cell hcell
   obtain ⟨ba,bc,rfl⟩:=row_slice hby
   have HBY:=Lib.hid (hby.ext he)
   clear hby
   go_wp2_with fail
   refine (own_bytesV _ x wr HBY.out hxl).to fun r w2 e2 hr=>?_
   obtain ⟨ra,rc,rfl⟩:=own_slice hr
   have hown2:=owns_ext ho e2
   have hle : evs.length = bl.length:=by have:=ho.1; simpa using this
   have c5 : w2.cell? ⟨g,k,none⟩ = some (evs[k]'(by omega)):=by
    have q:=(Row.of_owns hown2)
    obtain ⟨_,ao2,cap2,eq2,_,_,_,q5⟩:=q
    obtain ⟨b3,o3,e3,q6⟩:=q5 k _ (List.getElem?_eq_getElem (by omega))
    simp only [Value.slice.injEq] at eq2
    rw [← eq2.1] at e3
    simp only [Option.some.injEq,Addr.mk.injEq,and_true] at e3
    obtain ⟨rfl,rfl⟩:=e3
    simpa using q6
   have f5 : w2.frozen? ⟨g,k,none⟩ = false:=hown2.frozenAt _
   have hr2:=Lib.hid (owns_base hr (b2:=g) (by have:=he.size; have:=HG.out; omega))
   have he2:=he.trans e2
   have E2:=Lib.hid e2
   clear hcell ho e2 he hr
   go_wp2
   go_roundw
   case rel =>
    have hst:=hown2.stored k (.slice ra x.length rc)
    refine ⟨k + 1,_,by omega,by go_num,hst.1,fun j b hj hb=>?_,he2.setCell (by rw [HG.out]; exact Nat.le_refl _) _⟩
    by_cases hjk : j = k
    ·subst hjk
     have hb2 : bl[j]? = some b:=hb
     rw [HX.out] at hb2
     cases hb2
     refine ⟨_,List.getElem?_set_self (by omega),?_⟩
     exact hr2.out.kept hst.2 (own_types hr2.out hown2 (by decide))
    ·obtain ⟨ev,h3,h4⟩:=HALL.out j b (by omega) hb
     refine ⟨ev,by rw [List.getElem?_set_ne (fun e=>hjk e.symm)]; exact h3,?_⟩
     have h5:=owns_ext h4 E2.out
     exact h5.kept hst.2 (own_types h5 hown2 (by decide))
   case measure=>simp [intOf]; omega
  ·have hkl : k = bl.length:=by omega
   subst hkl
   go_wp2
   go_ret
   exact ⟨_,rfl,he,⟨evs,by rw [HG.out]; exact ho,fun i b hb=>by rw [HG.out]; exact HALL.out i b (List.getElem?_eq_some_iff.1 hb).1 hb⟩,_,rfl⟩

/-- What is described lies where the row does. -/
theorem rd_owns_in {base e size n : Nat} {v : Value} {cs : List Value} {w : World} {B : Nat → Prop} (h : w.ownsRow base e size v n cs) (hB : ∀ g,v.ownBlock = some g → B g) : Rd B (fun w=>Row w size v n cs) w:=fun w2 h2=>by
 refine Row.heap (Row.of_owns h) (fun j u b off hj ⟨m,cap,e⟩=>?_)
 rcases h.2 with ⟨rfl,_⟩ | ⟨g,cap',cur,rfl,hb,hg,_⟩
 ·cases e
 ·simp at e
  obtain ⟨⟨rfl,_⟩,_⟩:=e
  exact h2 g (hB g rfl) (Array.getElem?_eq_some_iff.1 hg).1
theorem OwnBox.rd {base : Nat} {w : World} {u : Value} {bl : List (List UInt8)} {B : Nat → Prop} (h : OwnBox base w u bl) (hB : ∀ g,base ≤ g → (∀ cs t,w.heap[g]? = some (.cells cs t (0,0)) → t = 80 ∨ t = 5) → B g) : Rd B (fun w=>RowOf 1 elBs w u bl) w:=by
 obtain ⟨evs,h1,h2⟩:=h
 have hl : evs.length = bl.length:=by have:=h1.1; simpa using this
 have hin : ∀ {e size n : Nat} {v : Value} {cs : List Value},w.ownsRow base e size v n cs → (e = 80 ∨ e = 5) → ∀ g,v.ownBlock = some g → B g:=fun {e size n v cs} ho he g hg=>by
  refine hB g (ho.lt g hg).1 (fun cs' t' hc=>?_)
  by_cases hne : e = t'
  ·rw [← hne]; exact he
  ·exact absurd hg (own_ne ho hc hne)
 have r1:=rd_owns_in h1 (hin h1 (.inl rfl))
 have r2 : Rd B (fun w=>∀ (i : Nat) (b : List UInt8) (ev : Value),bl[i]? = some b → evs[i]? = some ev → Bytes w ev b) w:=fun w2 hk i b ev hb hev=>by
  obtain ⟨ev',h3,h4⟩:=h2 i b hb
  rw [hev] at h3
  cases h3
  exact rd_owns_in h4 (hin h4 (.inr rfl)) w2 hk
 refine (r1.and r2).imp fun w' hw=>⟨evs.map (fun e=>[e]),⟨by simp [hl],fun i c x hc hx=>?_⟩,?_⟩
 ·rw [List.getElem?_map] at hc
  cases he : evs[i]? with
  | none=>rw [he] at hc; cases hc
  | some ev =>
   rw [he] at hc
   simp at hc
   subst hc
   exact ⟨rfl,ev,rfl,hw.2 i x ev hx he⟩
 ·have hf : ∀ l : List Value,(l.map fun e=>[e]).flatten = l:=fun l=>by
   induction l with
   | nil=>rfl
   | cons a l ih=>rw [List.map_cons,List.flatten_cons,ih]; rfl
  rw [hf]
  exact hw.1
theorem OwnBox.ext {base : Nat} {w w' : World} {u : Value} {bl : List (List UInt8)} (h : OwnBox base w u bl) (he : Ext w w') : OwnBox base w' u bl:=by
 obtain ⟨evs,h1,h2⟩:=h
 refine ⟨evs,owns_ext h1 he,fun i b hb=>?_⟩
 obtain ⟨ev,h3,h4⟩:=h2 i b hb
 exact ⟨ev,h3,owns_ext h4 he⟩
theorem OwnBox.low {base b2 : Nat} {w : World} {u : Value} {bl : List (List UInt8)} (h : OwnBox base w u bl) (hle : b2 ≤ base) : OwnBox b2 w u bl:=by
 obtain ⟨evs,h1,h2⟩:=h
 refine ⟨evs,owns_base h1 hle,fun i b hb=>?_⟩
 obtain ⟨ev,h3,h4⟩:=h2 i b hb
 exact ⟨ev,h3,owns_base h4 hle⟩
theorem OwnBox.kept {base : Nat} {w w' : World} {u : Value} {bl : List (List UInt8)} (h : OwnBox base w u bl) {b : Nat} (hg : w.grownBy w' (some b)) {cs : Array Value} {t : TypeId} (hb : w.heap[b]? = some (.cells cs t (0,0))) (hne : (80 : Nat) ≠ t) (hne2 : (5 : Nat) ≠ t) : OwnBox base w' u bl:=by
 obtain ⟨evs,h1,h2⟩:=h
 refine ⟨evs,h1.kept hg (.inr (own_ne h1 hb hne)),fun i b hb'=>?_⟩
 obtain ⟨ev,h3,h4⟩:=h2 i b hb'
 exact ⟨ev,h3,h4.kept hg (.inr (own_ne h4 hb hne2))⟩

end Go.Proofs.Ytdmipnnfoolelad
