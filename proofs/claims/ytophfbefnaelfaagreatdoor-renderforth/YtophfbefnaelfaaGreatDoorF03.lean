import Derived.Test.YtophfbefnaelfaaGreatDoorF02
import Derived.Deep.QuietTactic
import Derived.BigQuiet
import Derived.WalkSmall
set_option linter.unusedVariables false
set_option linter.unusedSimpArgs false
set_option maxHeartbeats 64000000
set_option maxRecDepth 100000
namespace Go.Proofs.YtophfbefnaelfaaGreatDoor
open Go.RowKit Go.IntWalk
def HoldsToks (w:World) (g:Nat) (L:List Tk.Tok):Prop :=
 ∀ i (hi:i<L.length),w.cell? ⟨g,i*4,none⟩=some (.int .i64 (L[i]).kind)∧w.cell? ⟨g,i*4+1,none⟩=some (.int .i64 ((L[i]).place:Int)) ∧
  w.cell? ⟨g,i*4+2,none⟩=some (.string (str (L[i]).text))∧w.cell? ⟨g,i*4+3,none⟩=some (.int .i64 (L[i]).n)
theorem toksCells_at:∀ (L:List Tk.Tok) (i:Nat) (hi:i<L.length),
  (toksCells L)[i*4]?=some (.int .i64 (L[i]).kind)∧(toksCells L)[i*4+1]?=some (.int .i64 ((L[i]).place:Int)) ∧
  (toksCells L)[i*4+2]?=some (.string (str (L[i]).text))∧(toksCells L)[i*4+3]?=some (.int .i64 (L[i]).n)
 | [],i,hi=>by simp at hi
 | t :: L,0,_=>by simp [toksCells,tokCells]
 | t :: L,i+1,hi=>by
  have ih:=toksCells_at L i (by simpa using hi);have e:toksCells (t :: L)=tokCells t++toksCells L:=(by simp [toksCells]);have hl:(tokCells t).length=4:=rfl;rw [e];have go:∀ j,(tokCells t++toksCells L)[(i+1)*4+j]?=(toksCells L)[i*4+j]?:=by
   intro j;rw [List.getElem?_append_right (by rw [hl];omega),hl]
   congr 1
   omega
  exact ⟨(go 0).trans ih.1,(go 1).trans ih.2.1,(go 2).trans ih.2.2.1,(go 3).trans ih.2.2.2⟩
theorem owns_toks {w:World} {base:Nat} {v:Value} {L:List Tk.Tok} (h:w.ownsRow base 99 4 v L.length (toksCells L)) :
  (v=.slice none 0 0∧L=[])∨∃ g cap,v=.slice (some ⟨g,0,none⟩) L.length cap∧base≤g∧g<w.heap.size∧L.length≤cap∧cap≤maxLen∧HoldsToks w g L:=by
 have hcell:=@World.ownsRow.cells _ _ _ _ _ _ _ h;rcases h.2 with ⟨rfl,h0⟩ | ⟨g,cap,cur,rfl,hb,hg,hnc,hcm,hcs,htake⟩
 ·exact .inl ⟨rfl,List.length_eq_zero_iff.1 h0⟩
 ·refine .inr ⟨g,cap,rfl,hb,(Array.getElem?_eq_some_iff.1 hg).1,hnc,hcm,fun i hi=>?_⟩
  have hc:=@hcell g rfl;have ha:=toksCells_at L i hi;have adds:∀ j,(⟨g,0,none⟩:Addr).add j=⟨g,j,none⟩:=by intro j;unfold Addr.add;split<;>simp_all
  have k0:=hc _ _ ha.1;have k1:=hc _ _ ha.2.1;have k2:=hc _ _ ha.2.2.1;have k3:=hc _ _ ha.2.2.2;rw [adds] at k0 k1 k2 k3;exact ⟨k0,k1,k2,k3⟩
theorem toks_slice {w:World} {base:Nat} {v:Value} {L:List Tk.Tok} (h:w.ownsRow base 99 4 v L.length (toksCells L)) :
  ∃ ao g cap,v=.slice ao L.length cap∧L.length≤cap∧cap≤maxLen∧(0<L.length→ao=some ⟨g,0,none⟩∧base≤g∧g<w.heap.size∧HoldsToks w g L):=by
 rcases owns_toks h with ⟨rfl,rfl⟩ | ⟨g,cap,rfl,h1,h2,h3,h4,h5⟩
 ·exact ⟨none,0,0,rfl,Nat.le_refl _,Nat.zero_le _,fun h=>by simp at h⟩
 ·exact ⟨some ⟨g,0,none⟩,g,cap,rfl,h3,h4,fun _=>⟨rfl,h1,h2,h5⟩⟩
structure Rd (w:World) (b g cap:Nat) (L:List Tk.Tok) (len nx op:Nat):Prop where
 here:w.heap[b]?=some (.cells #[.slice (some ⟨g,0,none⟩) L.length cap,.int .i64 nx,.int .i64 len,.int .i64 op] 106 (0,0))
 toks:HoldsToks w g L
 apart:b≠g
 gb:g<w.heap.size
 le:nx≤L.length
 lc:L.length≤cap
 cm:cap≤maxLen
def peekT (L:List Tk.Tok) (len nx:Nat):Tk.Tok:=if h:nx<L.length then L[nx] else ⟨0,len,[],0⟩
def tokV (t:Tk.Tok):Value:=.agg #[.int .i64 t.kind,.int .i64 (t.place:Int),.string (str t.text),.int .i64 t.n]
theorem Rd.cells {w:World} {b g cap:Nat} {L:List Tk.Tok} {len nx op:Nat} (h:Rd w b g cap L len nx op) :
  w.cell? ⟨b,0,none⟩=some (.slice (some ⟨g,0,none⟩) L.length cap)∧w.cell? ⟨b,1,none⟩=some (.int .i64 nx)∧w.cell? ⟨b,2,none⟩=some (.int .i64 len)∧w.cell? ⟨b,3,none⟩=some (.int .i64 op)∧b<w.heap.size:=by
 have h1:=h.here;refine ⟨?_,?_,?_,?_,(Array.getElem?_eq_some_iff.1 h1).1⟩<;>simp [World.cell?,h1]
structure Aside (S:List Nat) (B:Nat) (w w':World):Prop where
 os:w'.os=w.os
 tape:w'.tape=w.tape
 output:w'.output=w.output
 size:w.heap.size≤w'.heap.size
 block:∀ k,k<B→k ∉ S→w'.heap[k]?=w.heap[k]?
theorem heap_new (w:World) (o:Obj):(w.alloc o).heap[w.heap.size]?=some o:=by
 show (w.heap.push o)[w.heap.size]?=_
 simp
theorem aside {S:List Nat} {B:Nat} {w w':World} (h:Below B w w'):Aside S B w w':=⟨h.os,h.tape,h.output,h.size,fun k hk _=>h.block k hk⟩
theorem Aside.refl {S:List Nat} {B:Nat} (w:World):Aside S B w w:=⟨rfl,rfl,rfl,Nat.le_refl _,fun _ _ _=>rfl⟩
theorem Aside.trans {S:List Nat} {B B':Nat} {a b c:World} (h:Aside S B a b) (k:Aside S B' b c) (hB:B≤B'):Aside S B a c :=
 ⟨k.os.trans h.os,k.tape.trans h.tape,k.output.trans h.output,Nat.le_trans h.size k.size,fun i hi hs=>(k.block i (Nat.lt_of_lt_of_le hi hB) hs).trans (h.block i hi hs)⟩
theorem Aside.wide {S S':List Nat} {B:Nat} {w w':World} (h:Aside S B w w') (hs:∀ k,k<B→k ∉ S'→k ∉ S):Aside S' B w w':=⟨h.os,h.tape,h.output,h.size,fun k hk hn=>h.block k hk (hs k hk hn)⟩
theorem Aside.below {S:List Nat} {B:Nat} {w w':World} (h:Aside S B w w') (hs:∀ k,k ∈ S→B≤k):Below B w w' :=
 ⟨h.os,h.tape,h.output,h.size,fun k hk=>h.block k hk fun hm=>absurd (hs k hm) (by omega)⟩
theorem HoldsToks.keep {w w':World} {g:Nat} {L:List Tk.Tok} (h:HoldsToks w g L) (hg:w'.heap[g]?=w.heap[g]?):HoldsToks w' g L:=by
 intro i hi;have hc:∀ o,w'.cell? ⟨g,o,none⟩=w.cell? ⟨g,o,none⟩:=fun o=>World.cell?_of_block (w:=w) hg;rw [hc,hc,hc,hc];exact h i hi
theorem Rd.below {w w':World} {b g cap:Nat} {L:List Tk.Tok} {len nx op:Nat} (h:Rd w b g cap L len nx op) (hb:Below w.heap.size w w'):Rd w' b g cap L len nx op :=
 ⟨(hb.block b h.cells.2.2.2.2).trans h.here,h.toks.keep (hb.block g h.gb),h.apart,Nat.lt_of_lt_of_le h.gb hb.size,h.le,h.lc,h.cm⟩
theorem peek_any {w:World} {b g cap:Nat} {L:List Tk.Tok} {len nx op:Nat} (h:Rd w b g cap L len nx op) :
  Calls Tryz.prog 91 #[.pointer (some ⟨b,0,none⟩)] w fun e w'=>e=.returned (tokV (peekT L len nx))∧Below w.heap.size w w':=by
 obtain ⟨c0,c1,c2,c3,hb⟩:=h.cells;have hle:=h.le;have hcm:=h.cm;have hlc:=h.lc;unfold maxLen at hcm;have hgb:=h.gb;by_cases hn:nx<L.length
 ·have hq:((nx:Int)==(L.length:Int))=false:=by rw [beq_eq_false_iff_ne];omega
  obtain ⟨t0,t1,t2,t3⟩:=h.toks nx hn;have e:peekT L len nx=L[nx]:=(by simp [peekT,hn]);rw [e];clear e;go_enter Tryz.func91,Tryz.ntmps91;go_wp2
  go_region
  go_wp2
  go_region
  go_wp2;exact bodyPost_ret (v:=tokV L[nx]) (by simp [tokV,results,Tryz.results91,go_sem]) rfl ⟨rfl,((Below.refl _ w).alloc nR _).drew.drew⟩
 ·have hq:((nx:Int)==(L.length:Int))=true:=by rw [beq_iff_eq];omega
  have e:peekT L len nx=⟨0,len,[],0⟩:=(by simp [peekT,hn]);rw [e];clear e;go_enter Tryz.func91,Tryz.ntmps91;go_wp2
  go_region
  go_wp2;exact bodyPost_ret (v:=tokV ⟨0,len,[],0⟩) (by simp [tokV,str,results,Tryz.results91,go_sem]) rfl ⟨rfl,((Below.refl _ w).alloc nR _).drew⟩
theorem tok_field2 (t:Tk.Tok) (x:ByteArray) (w:World):(Instr.field 99 (.agg #[.int .i64 t.kind,.int .i64 (t.place:Int),.string x,.int .i64 t.n]) 2).run Tryz.prog w=.ok (.string x) w:=by
 kernel_rfl
theorem sees_any {w:World} {b g cap:Nat} {L:List Tk.Tok} {len nx op:Nat} (h:Rd w b g cap L len nx op) (s:ByteArray) :
  Calls Tryz.prog 92 #[.pointer (some ⟨b,0,none⟩),.string s] w fun e w'=>e=.returned (.bool ((peekT L len nx).text==s.data.toList))∧Below w.heap.size w w':=by
 have hp:=@peek_any _ _ _ _ _ _ _ _ h;obtain ⟨t,ht⟩:=nmQ (peekT L len nx);rw [←ht] at hp ⊢;unfold tokV at hp;clear h ht;have hf:=fun x w=>tok_field2 t x w;go_enter Tryz.func92,Tryz.ntmps92
 go_wp2_with (go_at_call 91;refine hp.mono ?_;rintro e w' ⟨rfl,hb⟩)
 go_ret;refine ⟨ret_bool ?_,hb⟩;simp [str,Lib.toList_data]
theorem Aside.setCell {S:List Nat} {B:Nat} {w:World} {p:Addr} (hp:p.block ∈ S) (u:Value):Aside S B w (w.setCell p u) :=
 ⟨rfl,rfl,rfl,by simp [World.setCell],fun k _ hs=>Below.heap_setCell _ _ _ _ (fun e=>hs (e ▸ hp))⟩
theorem Rd.moved {w:World} {b g cap:Nat} {L:List Tk.Tok} {len nx op:Nat} (h:Rd w b g cap L len nx op) (hn:nx<L.length) :
  Rd (w.setCell ⟨b,1,none⟩ (.int .i64 ((nx:Int)+1))) b g cap L len (nx+1) op:=by
 refine ⟨?_,h.toks.keep (Below.heap_setCell _ _ _ _ (fun e=>h.apart e.symm)),h.apart,by simpa [World.setCell] using h.gb,hn,h.lc,h.cm⟩;simp [World.setCell,Array.getElem?_modify,h.here]
theorem step_any {w:World} {b g cap:Nat} {L:List Tk.Tok} {len nx op:Nat} (h:Rd w b g cap L len nx op) (hn:nx<L.length) :
  Calls Tryz.prog 136 #[.pointer (some ⟨b,0,none⟩)] w fun e w'=>e=.returned (.tuple #[])∧Rd w' b g cap L len (nx+1) op∧Aside [b] w.heap.size w w':=by
 obtain ⟨c0,c1,c2,c3,hb⟩:=h.cells;have hle:=h.le;have hcm:=h.cm;have hlc:=h.lc;have hz:w.frozen? ⟨b,1,none⟩=false:=(by simp [World.frozen?,h.here]);unfold maxLen at hcm;go_enter Tryz.func136,Tryz.ntmps136;go_wp2;go_end0;exact ⟨rfl,h.moved hn,Aside.setCell (by simp) _⟩
theorem take_yes {w:World} {b g cap:Nat} {L:List Tk.Tok} {len nx op:Nat} (h:Rd w b g cap L len nx op) (s:ByteArray) (hs:((peekT L len nx).text==s.data.toList)=true) (hn:nx<L.length) :
  Calls Tryz.prog 115 #[.pointer (some ⟨b,0,none⟩),.string s] w fun e w'=>e=.returned (.bool true)∧Rd w' b g cap L len (nx+1) op∧Aside [b] w.heap.size w w':=by
 have hp:=sees_any h s;rw [hs] at hp;have hnot:∀ (x:Bool) (w:World),(Op.unary .not (.bool x)).run Tryz.prog w=.ok (.bool (!x)) w:=fun _ _=>rfl;go_enter Tryz.func115,Tryz.ntmps115
 go_wp2_with (go_at_call 92;refine hp.mono ?_;rintro e w1 ⟨rfl,hb⟩)
 refine (step_any (h.below hb) hn).mono ?_;rintro e w2 ⟨rfl,h2,ha⟩;go_wp2;go_ret;exact ⟨rfl,h2,(aside hb).trans ha hb.size⟩
theorem take_no {w:World} {b g cap:Nat} {L:List Tk.Tok} {len nx op:Nat} (h:Rd w b g cap L len nx op) (s:ByteArray) (hs:((peekT L len nx).text==s.data.toList)=false) :
  Calls Tryz.prog 115 #[.pointer (some ⟨b,0,none⟩),.string s] w fun e w'=>e=.returned (.bool false)∧Below w.heap.size w w':=by
 have hp:=sees_any h s;rw [hs] at hp;go_enter Tryz.func115,Tryz.ntmps115
 go_wp2_with (go_at_call 92;refine hp.mono ?_;rintro e w1 ⟨rfl,hb⟩)
 go_ret;exact ⟨rfl,hb⟩
theorem need_yes {w:World} {b g cap:Nat} {L:List Tk.Tok} {len nx op:Nat} (h:Rd w b g cap L len nx op) (s:ByteArray) (hs:((peekT L len nx).text==s.data.toList)=true) (hn:nx<L.length) :
  Calls Tryz.prog 113 #[.pointer (some ⟨b,0,none⟩),.string s] w fun e w'=>e=.returned (.tuple #[])∧Rd w' b g cap L len (nx+1) op∧Aside [b] w.heap.size w w':=by
 have hp:=take_yes h s hs hn;go_enter Tryz.func113,Tryz.ntmps113
 go_wp2_with (go_at_call 115;refine hp.mono ?_;rintro e w1 ⟨rfl,h1,ha⟩)
 go_end0;exact ⟨rfl,h1,ha⟩
theorem name_yes {w:World} {b g cap:Nat} {L:List Tk.Tok} {len nx op:Nat} (h:Rd w b g cap L len nx op) (hk:(peekT L len nx).kind=2) (hn:nx<L.length) :
  Calls Tryz.prog 114 #[.pointer (some ⟨b,0,none⟩)] w fun e w'=>e=.returned (.string (str (peekT L len nx).text))∧Rd w' b g cap L len (nx+1) op∧Aside [b] w.heap.size w w':=by
 have hp:=@peek_any _ _ _ _ _ _ _ _ h;obtain ⟨t,ht⟩:=nmQ (peekT L len nx);rw [←ht] at hp hk ⊢;unfold tokV at hp;rw [hk] at hp;clear ht;go_enter Tryz.func114,Tryz.ntmps114
 go_wp2_with (go_at_call 91;refine hp.mono ?_;rintro e w1 ⟨rfl,hb⟩)
 refine (step_any ((h.below hb).below ((Below.refl _ w1).alloc nR _)) hn).mono ?_;rintro e w2 ⟨rfl,h2,ha⟩;have hzb:=h.cells.2.2.2.2;have hs1:=hb.size;have hbl:w2.heap[w1.heap.size]?=some (.cells #[.int .i64 2,.int .i64 (t.place:Int),.string (str t.text),.int .i64 t.n] 99 (0,0)):=by
  rw [ha.block w1.heap.size (by simp) (by simp;omega)];exact heap_new _ _
 have hcl:w2.cell? ⟨w1.heap.size,2,none⟩=some (.string (str t.text)):=(by simp [World.cell?,hbl]);go_wp2;go_ret;exact ⟨rfl,h2,(aside hb).trans ((aside ((Below.refl w1.heap.size w1).alloc nR _)).trans ha (by simp)) hs1⟩
end Go.Proofs.YtophfbefnaelfaaGreatDoor
namespace Go.Proofs.YtophfbefnaelfaaGreatDoor
open Go.RowKit Go.IntWalk
theorem Aside.alloc {S:List Nat} {B:Nat} {w w':World} (h:Aside S B w w') (hB:B≤w'.heap.size) (o:Obj):Aside S B w (w'.alloc o) :=
 h.trans (aside ((Below.refl B w').alloc hB o)) nR
theorem Aside.set {S:List Nat} {B:Nat} {w w':World} (h:Aside S B w w') {p:Addr} (hp:B≤p.block) (u:Value):Aside S B w (w'.setCell p u) :=
 h.trans (aside ((Below.refl B w').setCell hp u)) nR
theorem Aside.drew {S:List Nat} {B:Nat} {w w':World} (h:Aside S B w w'):Aside S B w w'.drew:=⟨h.os,h.tape,h.output,h.size,h.block⟩
theorem Aside.mono {S:List Nat} {B B':Nat} {w w':World} (h:Aside S B w w') (hB:B'≤B):Aside S B' w w':=⟨h.os,h.tape,h.output,h.size,fun k hk=>h.block k (Nat.lt_of_lt_of_le hk hB)⟩
section
variable {w:World} {b g cap:Nat} {L:List Tk.Tok} {len nx op:Nat}
theorem Rd.alloc (h:Rd w b g cap L len nx op) (o:Obj):Rd (w.alloc o) b g cap L len nx op:=h.below ((Below.refl _ w).alloc nR _)
theorem Rd.drew (h:Rd w b g cap L len nx op):Rd w.drew b g cap L len nx op:=h.below (Below.refl _ w).drew
theorem Rd.set (h:Rd w b g cap L len nx op) {p:Addr} (hb:p.block≠b) (hg:p.block≠g) (u:Value):Rd (w.setCell p u) b g cap L len nx op :=
 ⟨(Below.heap_setCell _ _ _ _ (fun e=>hb e.symm)).trans h.here,h.toks.keep (Below.heap_setCell _ _ _ _ (fun e=>hg e.symm)),h.apart,by simpa [World.setCell] using h.gb,h.le,h.lc,h.cm⟩
theorem Rd.bb (h:Rd w b g cap L len nx op):b<w.heap.size:=h.cells.2.2.2.2
end
theorem co {w:World} {k:Nat} {cs:Array Value} {t:TypeId} (h:w.heap[k]?=some (.cells cs t (0,0))) (o:Nat):w.cell? ⟨k,o,none⟩=cs[o]?:=by simp [World.cell?,h]
theorem newB {w v:World} {o:Obj} (h:w=v.alloc o):Below v.heap.size v w:=by rw [h];exact (Below.refl _ _).alloc nR _
theorem newK {w v:World} {o:Obj} (h:w=v.alloc o):w.heap[v.heap.size]?=some o:=by rw [h];exact heap_new _ _
theorem newZ {w v:World} {o:Obj} (h:w=v.alloc o):w.heap.size=v.heap.size+1:=by rw [h];simp
abbrev Zb:Obj:=.cells #[.int .i64 0,.int .i64 0,.int .i64 0,.string ⟨#[]⟩,.slice none 0 0,.slice none 0 0] 45 (0,0)
theorem cells2 {w:World} {k:Nat} {v0 v1:Value} {t:TypeId} (h:w.heap[k]?=some (.cells #[v0,v1] t (0,0))):w.cell? ⟨k,0,none⟩=some v0∧w.cell? ⟨k,1,none⟩=some v1:=
  ⟨(co h 0).trans rfl,(co h 1).trans rfl⟩
theorem cells3 {w:World} {k:Nat} {v0 v1 v2:Value} {t:TypeId} (h:w.heap[k]?=some (.cells #[v0,v1,v2] t (0,0))):w.cell? ⟨k,0,none⟩=some v0∧w.cell? ⟨k,1,none⟩=some v1∧w.cell? ⟨k,2,none⟩=some v2:=
  ⟨(co h 0).trans rfl,(co h 1).trans rfl,(co h 2).trans rfl⟩
theorem cells4 {w:World} {k:Nat} {v0 v1 v2 v3:Value} {t:TypeId} (h:w.heap[k]?=some (.cells #[v0,v1,v2,v3] t (0,0))):w.cell? ⟨k,0,none⟩=some v0∧w.cell? ⟨k,1,none⟩=some v1∧w.cell? ⟨k,2,none⟩=some v2∧w.cell? ⟨k,3,none⟩=some v3:=
  ⟨(co h 0).trans rfl,(co h 1).trans rfl,(co h 2).trans rfl,(co h 3).trans rfl⟩
theorem cells5 {w:World} {k:Nat} {v0 v1 v2 v3 v4:Value} {t:TypeId} (h:w.heap[k]?=some (.cells #[v0,v1,v2,v3,v4] t (0,0))):w.cell? ⟨k,0,none⟩=some v0∧w.cell? ⟨k,1,none⟩=some v1∧w.cell? ⟨k,2,none⟩=some v2∧w.cell? ⟨k,3,none⟩=some v3∧w.cell? ⟨k,4,none⟩=some v4:=
  ⟨(co h 0).trans rfl,(co h 1).trans rfl,(co h 2).trans rfl,(co h 3).trans rfl,(co h 4).trans rfl⟩
theorem cells6 {w:World} {k:Nat} {v0 v1 v2 v3 v4 v5:Value} {t:TypeId} (h:w.heap[k]?=some (.cells #[v0,v1,v2,v3,v4,v5] t (0,0))):w.cell? ⟨k,0,none⟩=some v0∧w.cell? ⟨k,1,none⟩=some v1∧w.cell? ⟨k,2,none⟩=some v2∧w.cell? ⟨k,3,none⟩=some v3∧w.cell? ⟨k,4,none⟩=some v4∧w.cell? ⟨k,5,none⟩=some v5:=
  ⟨(co h 0).trans rfl,(co h 1).trans rfl,(co h 2).trans rfl,(co h 3).trans rfl,(co h 4).trans rfl,(co h 5).trans rfl⟩
theorem cells7 {w:World} {k:Nat} {v0 v1 v2 v3 v4 v5 v6:Value} {t:TypeId} (h:w.heap[k]?=some (.cells #[v0,v1,v2,v3,v4,v5,v6] t (0,0))):w.cell? ⟨k,0,none⟩=some v0∧w.cell? ⟨k,1,none⟩=some v1∧w.cell? ⟨k,2,none⟩=some v2∧w.cell? ⟨k,3,none⟩=some v3∧w.cell? ⟨k,4,none⟩=some v4∧w.cell? ⟨k,5,none⟩=some v5∧w.cell? ⟨k,6,none⟩=some v6:=
  ⟨(co h 0).trans rfl,(co h 1).trans rfl,(co h 2).trans rfl,(co h 3).trans rfl,(co h 4).trans rfl,(co h 5).trans rfl,(co h 6).trans rfl⟩
theorem fo {w:World} {k:Nat} {cs:Array Value} {t:TypeId} (h:w.heap[k]?=some (.cells cs t (0,0))) (o:Nat):w.frozen? ⟨k,o,none⟩=false:=by simp [World.frozen?,h]
theorem lt_of {w:World} {k:Nat} {o:Obj} (h:w.heap[k]?=some o):k<w.heap.size:=(Array.getElem?_eq_some_iff.1 h).1
theorem Aside.keep {S:List Nat} {B:Nat} {w w':World} (a:Aside S B w w') {k:Nat} {x:Obj} (hx:w.heap[k]?=some x) (hk:k<B) (hs:k ∉ S):w'.heap[k]?=some x:=(a.block k hk hs).trans hx
theorem kA {w:World} {k:Nat} {x:Obj} (hx:w.heap[k]?=some x) (o:Obj):(w.alloc o).heap[k]?=some x:=(Below.heap_alloc _ _ _ (lt_of hx)).trans hx
theorem keep_set {w:World} {k:Nat} {x:Obj} (hx:w.heap[k]?=some x) {p:Addr} (hp:p.block≠k) (u:Value):(w.setCell p u).heap[k]?=some x:=(Below.heap_setCell _ _ _ _ (fun e=>hp e.symm)).trans hx
theorem set_in {w:World} {k:Nat} {cs:Array Value} {t:TypeId} (h:w.heap[k]?=some (.cells cs t (0,0))) (o:Nat) (u:Value):(w.setCell ⟨k,o,none⟩ u).heap[k]?=some (.cells (cs.setIfInBounds o u) t (0,0)):=by
 simp [World.setCell,Array.getElem?_modify,h]
theorem tokF0 (t:Tk.Tok) (x:ByteArray) (w:World):(Instr.field 99 (.agg #[.int .i64 t.kind,.int .i64 (t.place:Int),.string x,.int .i64 t.n]) 0).run Tryz.prog w=.ok (.int .i64 t.kind) w:=by kernel_rfl
theorem tokF1 (t:Tk.Tok) (x:ByteArray) (w:World):(Instr.field 99 (.agg #[.int .i64 t.kind,.int .i64 (t.place:Int),.string x,.int .i64 t.n]) 1).run Tryz.prog w=.ok (.int .i64 (t.place:Int)) w:=by kernel_rfl
theorem allow_yes (v:Value) (x y:Int) (hxy:x<y) (w:World) :
  Calls Tryz.prog 93 #[v,.int .i64 x,.int .i64 y] w fun e w'=>e=.returned (.tuple #[])∧w'=w:=by
 have hd:decide (y≤x)=false:=(by simp;omega);go_enter Tryz.func93,Tryz.ntmps93;go_wp2;go_end0;exact ⟨rfl,rfl⟩
theorem makes (fn:Fn) (first cap:Array Value) (w:World):(Instr.makeFunc fn first cap).run Tryz.prog w=.ok (.func fn first cap) w:=rfl
theorem owns_pos {w:World} {base:Nat} {e:TypeId} {size:Nat} {v:Value} {n:Nat} {xs:List Value} (h:w.ownsRow base e size v n xs) (hn:0<n) :
  ∃ g cap,v=.slice (some ⟨g,0,none⟩) n cap∧base≤g∧g<w.heap.size∧n≤cap∧cap≤maxLen∧∀ j u,xs[j]?=some u→w.cell? ⟨g,j,none⟩=some u:=by
 have hcell:=@World.ownsRow.cells _ _ _ _ _ _ _ h;rcases h.2 with ⟨rfl,h0⟩ | ⟨g,cap,cur,rfl,hb,hg,hnc,hcm,hcs,htake⟩
 ·omega
 ·refine ⟨g,cap,rfl,hb,lt_of hg,hnc,hcm,fun j u hj=>?_⟩
  have hc:=@hcell g rfl j u hj;have adds:(⟨g,0,none⟩:Addr).add j=⟨g,j,none⟩:=by unfold Addr.add;split<;>simp_all
  rw [adds] at hc;exact hc
theorem Tryz.info77:(Tryz.prog.info? 77).map (fun i=>(i.zero,i.size,i.bytes))=some (some (.agg #[.string ⟨#[]⟩,.int .u8 0,.slice none 0 0]),3,48):=by kernel_rfl
end Go.Proofs.YtophfbefnaelfaaGreatDoor
