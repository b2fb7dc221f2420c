import Derived.Test.YthkpanbgkimhoaaGreatDoorM02
import Derived.Deep.QuietTactic
import Derived.BigQuiet
import Derived.Test.YthkpanbgkimhoaaGreatDoorM01
import Derived.Deep.LoopGhost
set_option linter.unusedVariables false
set_option linter.unusedSimpArgs false
set_option maxHeartbeats 64000000
set_option maxRecDepth 100000
namespace Go.Proofs.YthkpanbgkimhoaaGreatDoor
open Go.RowKit Go.IntWalk
variable {b g cap:Nat} {ao:Option Addr} {I:Inp}
structure Rr (w:World) (b g cap:Nat) (ao:Option Addr) (I:Inp) (nx:Nat) (fc fa pt:Int):Prop where
 here:w.heap[b]?=some (.cells #[.slice ao I.L.length cap,.int .i64 nx,.int .i64 I.len,.int .i64 fc,.int .i64 fa,.int .i64 pt] 52 (0,0))
 toks:0<I.L.length→ao=some ⟨g,0,none⟩∧g<w.heap.size∧HoldsToks w g I.L
 apart:b≠g
 le:nx≤I.L.length
 lc:I.L.length≤cap
 cm:cap≤maxLen
theorem Rr.cells {w:World} {nx:Nat} {fc fa pt:Int} (h:Rr w b g cap ao I nx fc fa pt) :
  w.cell? ⟨b,0,none⟩=some (.slice ao I.L.length cap)∧w.cell? ⟨b,1,none⟩=some (.int .i64 nx)∧w.cell? ⟨b,2,none⟩=some (.int .i64 I.len)∧w.cell? ⟨b,3,none⟩=some (.int .i64 fc)∧w.cell? ⟨b,4,none⟩=some (.int .i64 fa)∧w.cell? ⟨b,5,none⟩=some (.int .i64 pt)∧b<w.heap.size:=by
 have h1:=h.here;refine ⟨?_,?_,?_,?_,?_,?_,(Array.getElem?_eq_some_iff.1 h1).1⟩<;>simp [World.cell?,h1]
theorem Rr.past {w w':World} {nx:Nat} {fc fa pt:Int} (h:Rr w b g cap ao I nx fc fa pt) (hb:Below w.heap.size w w'):Rr w' b g cap ao I nx fc fa pt :=
 ⟨(hb.block b h.cells.2.2.2.2.2.2).trans h.here,fun h0=>⟨(h.toks h0).1,Nat.lt_of_lt_of_le (h.toks h0).2.1 hb.size,(h.toks h0).2.2.keep (hb.block g (h.toks h0).2.1)⟩,h.apart,h.le,h.lc,h.cm⟩
def seesW (I:Inp) (s:List UInt8) (n:Nat):Bool:=decide (n<I.L.length)&&((I.pk n).text==s)&&((I.pk n).kind==1 || (I.pk n).kind==4)
theorem zU {w:World} {nx:Nat} {fc fa pt:Int} (h:Rr w b g cap ao I nx fc fa pt) :
  Calls Tryz.prog 15 #[.pointer (some ⟨b,0,none⟩)] w fun e w'=>e=.returned (.bool (fc != 0))∧Below w.heap.size w w':=by
 obtain ⟨c0,c1,c2,c3,c4,c5,hb⟩:=h.cells;go_enter Tryz.func15,Tryz.ntmps15;go_wp2;go_ret;exact ⟨rfl,Below.refl _ _⟩
theorem xO {w:World} {nx:Nat} {fc fa pt:Int} (h:Rr w b g cap ao I nx fc fa pt) (s:ByteArray) :
  Calls Tryz.prog 16 #[.pointer (some ⟨b,0,none⟩),.string s] w fun e w'=>e=.returned (.bool (seesW I s.data.toList nx))∧Below w.heap.size w w':=by
 obtain ⟨c0,c1,c2,c3,c4,c5,hb⟩:=h.cells;have hle:=h.le;have hcm:=h.cm;have hlc:=h.lc;unfold maxLen at hcm;obtain ⟨r,hr⟩:=nm (seesW I s.data.toList nx);rw [←hr];unfold seesW at hr;by_cases hn:nx<I.L.length
 ·obtain ⟨rfl,hg,hT⟩:=h.toks (by omega)
  obtain ⟨t0,t1,t2,t3⟩:=hT nx hn;have e:I.pk nx=I.L[nx]:=(by unfold Inp.pk peekT;rw [dif_pos hn]);rw [e] at hr;have hd:decide (nx<I.L.length)=true:=(by simpa using hn);rw [hd,Bool.true_and] at hr;generalize I.L[nx]=t at t0 t1 t2 t3 hr;have hx:((str t.text).toList==s.toList)=(t.text==s.data.toList):=(by rw [Lib.toList_data,Lib.toList_data];rfl);have ha:(nx:Int)<(I.L.length:Int):=(by omega);by_cases h1:(t.text==s.data.toList)=true
  ·rw [h1,Bool.true_and] at hr
   rw [h1] at hx;by_cases h2:(t.kind==1)=true
   ·have hr1:r=true:=by rw [hr,h2];rfl
    subst hr1;clear hr;go_enter Tryz.func16,Tryz.ntmps16;go_wp2;go_quiet (fail);go_wp2;go_ret;exact ⟨rfl,below_drewN (Below.refl _ _) _⟩
   ·have h2:(t.kind==1)=false:=by simpa using h2
    by_cases h3:(t.kind==4)=true
    ·have hr1:r=true:=by rw [hr,h2,h3];rfl
     subst hr1;clear hr;go_enter Tryz.func16,Tryz.ntmps16;go_wp2;go_quiet (fail);go_wp2;go_ret;exact ⟨rfl,below_drewN (Below.refl _ _) _⟩
    ·have h3:(t.kind==4)=false:=by simpa using h3
     have hr1:r=false:=(by rw [hr,h2,h3];rfl);subst hr1;clear hr;go_enter Tryz.func16,Tryz.ntmps16;go_wp2;go_quiet (fail);go_wp2;go_ret;exact ⟨rfl,below_drewN (Below.refl _ _) _⟩
  ·have h1:(t.text==s.data.toList)=false:=by simpa using h1
   have hr1:r=false:=(by rw [hr,h1];rfl);subst hr1;clear hr;rw [h1] at hx;go_enter Tryz.func16,Tryz.ntmps16;go_wp2;go_quiet (fail);go_wp2;go_ret;exact ⟨rfl,below_drewN (Below.refl _ _) _⟩
 ·have hd:decide (nx<I.L.length)=false:=by simpa using hn
  rw [hd] at hr;have hr1:r=false:=(by rw [hr];rfl);subst hr1;clear hr;have ha:¬(nx:Int)<(I.L.length:Int):=(by omega);go_enter Tryz.func16,Tryz.ntmps16;go_wp2;go_quiet (fail);go_wp2;go_ret;exact ⟨rfl,below_drewN (Below.refl _ _) _⟩
end Go.Proofs.YthkpanbgkimhoaaGreatDoor
namespace Go.Proofs.YthkpanbgkimhoaaGreatDoor
open Go.RowKit Go.IntWalk
variable {b g cap:Nat} {ao:Option Addr} {I:Inp}
theorem Rr.free {w:World} {nx:Nat} {fc fa pt:Int} (h:Rr w b g cap ao I nx fc fa pt) (o:Nat):w.frozen? ⟨b,o,none⟩=false:=by simp [World.frozen?,h.here]
theorem Rr.move {w:World} {nx:Nat} {fc fa pt:Int} (h:Rr w b g cap ao I nx fc fa pt) (m:Nat) (hm:m≤I.L.length) :
  Rr (w.setCell ⟨b,1,none⟩ (.int .i64 (m:Int))) b g cap ao I m fc fa pt:=by
 refine ⟨?_,fun h0=>⟨(h.toks h0).1,by simpa [World.setCell] using (h.toks h0).2.1,(h.toks h0).2.2.keep (Below.heap_setCell _ _ _ _ (fun e=>h.apart e.symm))⟩,h.apart,hm,h.lc,h.cm⟩;simp [World.setCell,Array.getElem?_modify,h.here]
theorem Rr.fault {w:World} {nx:Nat} {fc fa pt:Int} (h:Rr w b g cap ao I nx fc fa pt) (c a:Int) :
  Rr ((w.setCell ⟨b,3,none⟩ (.int .i64 c)).setCell ⟨b,4,none⟩ (.int .i64 a)) b g cap ao I nx c a pt:=by
 refine ⟨?_,fun h0=>⟨(h.toks h0).1,by simpa [World.setCell] using (h.toks h0).2.1,(h.toks h0).2.2.keep ((Below.heap_setCell _ _ _ _ (fun e=>h.apart e.symm)).trans (Below.heap_setCell _ _ _ _ (fun e=>h.apart e.symm)))⟩,h.apart,h.le,h.lc,h.cm⟩;simp [World.setCell,Array.getElem?_modify,h.here]
theorem zAb {w:World} {nx:Nat} {fc fa pt:Int} (h:Rr w b g cap ao I nx fc fa pt) :
  Calls Tryz.prog 43 #[.pointer (some ⟨b,0,none⟩)] w fun e w'=>e=.returned (.int .i64 ((I.pk nx).place:Int))∧Below w.heap.size w w':=by
 obtain ⟨c0,c1,c2,c3,c4,c5,hb⟩:=h.cells;have hle:=h.le;have hcm:=h.cm;have hlc:=h.lc;unfold maxLen at hcm;by_cases hn:nx<I.L.length
 ·obtain ⟨rfl,hg,hT⟩:=h.toks (by omega)
  obtain ⟨t0,t1,t2,t3⟩:=hT nx hn;have e:I.pk nx=I.L[nx]:=(by unfold Inp.pk peekT;rw [dif_pos hn]);rw [e];clear e;generalize I.L[nx]=t at t0 t1 t2 t3 ⊢;have ha:(nx:Int)<(I.L.length:Int):=(by omega);go_enter Tryz.func43,Tryz.ntmps43;go_wp2;go_quiet (fail);go_wp2;go_quiet (fail);go_wp2;go_ret;exact ⟨rfl,below_drewN (below_drewN (Below.refl _ _) _) _⟩
 ·have e:I.pk nx=⟨0,I.len,[],0⟩:=by unfold Inp.pk peekT;rw [dif_neg hn]
  rw [e];clear e;have ha:¬(nx:Int)<(I.L.length:Int):=(by omega);go_enter Tryz.func43,Tryz.ntmps43;go_wp2;go_quiet (fail);go_wp2;go_ret;exact ⟨rfl,below_drewN (Below.refl _ _) _⟩
def refW (I:Inp) (n:Nat) (c:Int):Int:=if c=4∧I.L.length≤n then 5 else c
theorem xG {w:World} {nx:Nat} {fa pt:Int} (h:Rr w b g cap ao I nx 0 fa pt) (c:Int) :
  Calls Tryz.prog 17 #[.pointer (some ⟨b,0,none⟩),.int .i64 c] w fun e w'=>e=.returned (.tuple #[])∧Rr w' b g cap ao I nx (refW I nx c) ((I.pk nx).place:Int) pt∧Aside [b] w.heap.size w w':=by
 have hle:=h.le;have hcm:=h.cm;have hlc:=h.lc;unfold maxLen at hcm;obtain ⟨k,hk⟩:=nm (refW I nx c);rw [←hk];unfold refW at hk;by_cases hc:c=4
 ·by_cases hn:nx<I.L.length
  ·rw [if_neg (fun h=>by omega)] at hk
   subst hk;subst hc;have ha:¬(I.L.length:Int)≤(nx:Int):=(by omega);go_enter Tryz.func17,Tryz.ntmps17;go_wp2_with fail;refine (zU h).mono ?_;rintro e w1 ⟨rfl,b1⟩;have h1:=h.past b1;obtain ⟨c0,c1,c2,c3,c4,c5,hb⟩:=h1.cells;go_wp2_with fail;go_quiet (fail);go_wp2_with fail;have bq:∀ m,Below w1.heap.size w1 (w1.drewN m):=fun m=>below_drewN (Below.refl _ _) m;refine (zAb (h1.past (bq _))).mono ?_;rintro e w2 ⟨rfl,b3⟩;have b2:Below w1.heap.size w1 w2:=(bq _).trans (b3.mono (bq _).size);have h3:=h1.past b2;go_wp2_with fail;refine (vV _ _ _).mono ?_;rintro e w3 ⟨rfl,b4⟩;have h4:=h3.past b4;have f4:=fun o=>h4.free o;obtain ⟨d0,d1,d2,d3,d4,d5,hd⟩:=h4.cells;go_wp2;go_end0;have A:Aside [b] w.heap.size w w3:=((aside b1).trans (aside b2) b1.size).trans (aside b4) (Nat.le_trans b1.size b2.size);exact ⟨rfl, h4.fault _ _,(A.trans (Aside.setCell (by simp) _) nR).trans (Aside.setCell (by simp) _) nR⟩
  ·rw [if_pos ⟨hc,by omega⟩] at hk
   subst hk;subst hc;have ha:(I.L.length:Int)≤(nx:Int):=(by omega);go_enter Tryz.func17,Tryz.ntmps17;go_wp2_with fail;refine (zU h).mono ?_;rintro e w1 ⟨rfl,b1⟩;have h1:=h.past b1;obtain ⟨c0,c1,c2,c3,c4,c5,hb⟩:=h1.cells;go_wp2_with fail;go_quiet (fail);go_wp2_with fail;have bq:∀ m,Below w1.heap.size w1 (w1.drewN m):=fun m=>below_drewN (Below.refl _ _) m;refine (zAb (h1.past (bq _))).mono ?_;rintro e w2 ⟨rfl,b3⟩;have b2:Below w1.heap.size w1 w2:=(bq _).trans (b3.mono (bq _).size);have h3:=h1.past b2;go_wp2_with fail;refine (vV _ _ _).mono ?_;rintro e w3 ⟨rfl,b4⟩;have h4:=h3.past b4;have f4:=fun o=>h4.free o;obtain ⟨d0,d1,d2,d3,d4,d5,hd⟩:=h4.cells;go_wp2;go_end0;have A:Aside [b] w.heap.size w w3:=((aside b1).trans (aside b2) b1.size).trans (aside b4) (Nat.le_trans b1.size b2.size);exact ⟨rfl, h4.fault _ _,(A.trans (Aside.setCell (by simp) _) nR).trans (Aside.setCell (by simp) _) nR⟩
 ·rw [if_neg (fun h=>hc h.1)] at hk
  subst hk;have hcb:(k==4)=false:=beq_eq_false_iff_ne.2 hc;go_enter Tryz.func17,Tryz.ntmps17;go_wp2_with fail;refine (zU h).mono ?_;rintro e w1 ⟨rfl,b1⟩;have h1:=h.past b1;obtain ⟨c0,c1,c2,c3,c4,c5,hb⟩:=h1.cells;go_wp2_with fail;go_quiet (fail);go_wp2_with fail;have bq:∀ m,Below w1.heap.size w1 (w1.drewN m):=fun m=>below_drewN (Below.refl _ _) m;refine (zAb (h1.past (bq _))).mono ?_;rintro e w2 ⟨rfl,b3⟩;have b2:Below w1.heap.size w1 w2:=(bq _).trans (b3.mono (bq _).size);have h3:=h1.past b2;go_wp2_with fail;refine (vV _ _ _).mono ?_;rintro e w3 ⟨rfl,b4⟩;have h4:=h3.past b4;have f4:=fun o=>h4.free o;obtain ⟨d0,d1,d2,d3,d4,d5,hd⟩:=h4.cells;go_wp2;go_end0;have A:Aside [b] w.heap.size w w3:=((aside b1).trans (aside b2) b1.size).trans (aside b4) (Nat.le_trans b1.size b2.size);exact ⟨rfl, h4.fault _ _,(A.trans (Aside.setCell (by simp) _) nR).trans (Aside.setCell (by simp) _) nR⟩
theorem zBP {w:World} {nx:Nat} {fc fa pt:Int} (h:Rr w b g cap ao I nx fc fa pt) (hf:fc≠0) (c:Int) :
  Calls Tryz.prog 17 #[.pointer (some ⟨b,0,none⟩),.int .i64 c] w fun e w'=>e=.returned (.tuple #[])∧Below w.heap.size w w':=by
 have hb:(fc==0)=false:=beq_eq_false_iff_ne.2 hf;go_enter Tryz.func17,Tryz.ntmps17;go_wp2_with fail;refine (zU h).mono ?_;rintro e w1 ⟨rfl,b1⟩;go_wp2;exact bodyPost_ret (v:=.tuple #[]) (by simp [results,Tryz.results17,go_sem]) rfl ⟨rfl,b1⟩
def Went {α:Type} (w':World) (b g cap:Nat) (ao:Option Addr) (I:Inp) (pt:Int) (r:Res α):Prop :=
 match r with
 | .ok _ m=>Rr w' b g cap ao I m 0 0 pt
 | .err c a=>∃ nx pt',Rr w' b g cap ao I nx (c:Int) (a:Int) pt'
theorem zCA {w:World} {nx:Nat} {fc fa pt:Int} (h:Rr w b g cap ao I nx fc fa pt) (hf:fc≠0) (s:ByteArray) :
  Calls Tryz.prog 44 #[.pointer (some ⟨b,0,none⟩),.string s] w fun e w'=>e=.returned (.tuple #[])∧Below w.heap.size w w':=by
 have hb:(fc==0)=false:=beq_eq_false_iff_ne.2 hf;go_enter Tryz.func44,Tryz.ntmps44;go_wp2_with fail;refine (zU h).mono ?_;rintro e w1 ⟨rfl,b1⟩;go_wp2;exact bodyPost_ret (v:=.tuple #[]) (by simp [results,Tryz.results44,go_sem]) rfl ⟨rfl,b1⟩
def Known (I:Inp) (s:List UInt8):Prop:=∀ n,seesW I s n=Ps.sees I s n
theorem vD (I:Inp) (n:Nat) (hk:∀ n,n<I.L.length→(I.pk n).kind≠0):refW I n 4=(Ps.refC I n:Int):=by
 unfold refW Ps.refC;by_cases h:n<I.L.length
 ·rw [if_neg (fun q=>by omega),if_neg (hk n h)];rfl
 ·rw [if_pos ⟨rfl,by omega⟩,if_pos (by unfold Inp.pk peekT;rw [dif_neg h])];rfl
theorem zDQ {w:World} {nx:Nat} {pt:Int} (h:Rr w b g cap ao I nx 0 0 pt) (hk:∀ n,n<I.L.length→(I.pk n).kind≠0) (s:ByteArray) (hs:Known I s.data.toList) :
  Calls Tryz.prog 44 #[.pointer (some ⟨b,0,none⟩),.string s] w fun e w'=>e=.returned (.tuple #[])∧Went w' b g cap ao I pt (Ps.need I s.data.toList nx)∧Aside [b] w.heap.size w w':=by
 have hle:=h.le;have hcm:=h.cm;have hlc:=h.lc;unfold maxLen at hcm;by_cases hx:Ps.sees I s.data.toList nx=true
 ·have hn:nx<I.L.length:=by
   have:=hs nx;rw [hx] at this;unfold seesW at this;simp at this;exact this.1.1
  have e:Ps.need I s.data.toList nx=.ok () (nx+1):=(by unfold Ps.need;rw [if_pos hx]);rw [e];clear e;go_enter Tryz.func44,Tryz.ntmps44;go_wp2_with fail;refine (zU h).mono ?_;rintro e w1 ⟨rfl,b1⟩;have h1:=h.past b1;have hsee:=xO h1 s;rw [hs nx,hx] at hsee;go_wp2_with fail;refine hsee.mono ?_;rintro e w2 ⟨rfl,b2⟩;have h2:=h1.past b2;have f2:=fun o=>h2.free o;obtain ⟨d0,d1,d2,d3,d4,d5,hd⟩:=h2.cells;go_wp2;go_end0;have A:Aside [b] w.heap.size w w2:=(aside b1).trans (aside b2) b1.size;exact ⟨rfl,h2.move (nx+1) (by omega),A.trans (Aside.setCell (by simp) _) nR⟩
 ·have hx:Ps.sees I s.data.toList nx=false:=by simpa using hx
  have e:Ps.need I s.data.toList nx=.err (Ps.refC I nx) (I.pk nx).place:=(by unfold Ps.need;rw [hx];rfl);rw [e];clear e;go_enter Tryz.func44,Tryz.ntmps44;go_wp2_with fail;refine (zU h).mono ?_;rintro e w1 ⟨rfl,b1⟩;have h1:=h.past b1;have hsee:=xO h1 s;rw [hs nx,hx] at hsee;go_wp2_with fail;refine hsee.mono ?_;rintro e w2 ⟨rfl,b2⟩;have h2:=h1.past b2;go_wp2_with fail;refine (xG h2 4).mono ?_;rintro e w3 ⟨rfl,h3,a3⟩;rw [vD I nx hk] at h3;go_wp2;have A:Aside [b] w.heap.size w w3:=((aside b1).trans (aside b2) b1.size).trans a3 (Nat.le_trans b1.size b2.size);exact bodyPost_ret (v:=.tuple #[]) (by simp [results,Tryz.results44,go_sem]) rfl ⟨rfl,⟨_,_,h3⟩,A⟩
end Go.Proofs.YthkpanbgkimhoaaGreatDoor
namespace Go.Proofs.YthkpanbgkimhoaaGreatDoor
open Go.RowKit Go.IntWalk
variable {b g cap:Nat} {ao:Option Addr} {I:Inp}
def noTok:Tk.Tok:=⟨0,0,[],0⟩
theorem field_tok (t:Tk.Tok) (x:ByteArray) (w:World):(Instr.field 71 (.agg #[.int .i64 t.kind,.int .i64 (t.place:Int),.string x,.int .i64 t.n]) 2).run Tryz.prog w=.ok (.string x) w:=by
 kernel_rfl
theorem of_bad {w:World} {nx:Nat} {fc fa pt:Int} (h:Rr w b g cap ao I nx fc fa pt) (hf:fc≠0) (k:Int) :
  Calls Tryz.prog 66 #[.pointer (some ⟨b,0,none⟩),.int .i64 k] w fun e w'=>e=.returned (tokV noTok)∧Below w.heap.size w w':=by
 have hb:(fc==0)=false:=beq_eq_false_iff_ne.2 hf;obtain ⟨W,hW⟩:=nm (w.alloc (.cells #[.int .i64 0,.int .i64 0,.string ⟨#[]⟩,.int .i64 0] 71 (0,0)));have bW:=xA hW;have hK:=xE hW;go_enter Tryz.func66,Tryz.ntmps66;go_wp2_with fail;rw [←hW];clear hW;refine (zU (h.past bW)).mono ?_;rintro e w1 ⟨rfl,b1⟩;have K1:=(aside b1 (S:=[])).keep hK (zC hK) (by simp);have c0:=co K1 0;have c1:=co K1 1;have c2:=co K1 2;have c3:=co K1 3;have ff:=fun o=>fo K1 o;have hz:=zC K1;simp at c0 c1 c2 c3;go_wp2;have B1:=bW.trans (b1.mono bW.size);exact bodyPost_ret (v:=tokV noTok) (by simp [tokV,noTok,str,results,Tryz.results66,go_sem,c0,c1,c2,c3]) rfl ⟨rfl,(((B1.setCell (p:=⟨w.heap.size,0,none⟩) nR _).setCell (p:=⟨w.heap.size,1,none⟩) nR _).setCell (p:=⟨w.heap.size,2,none⟩) nR _).setCell (p:=⟨w.heap.size,3,none⟩) nR _⟩
theorem Aside.past {S:List Nat} {B:Nat} {w w':World} (h:Aside S B w w') {p:Addr} (hp:B≤p.block) (u:Value):Aside S B w (w'.setCell p u) :=
 ⟨h.os,h.tape,h.output,by simpa [World.setCell] using h.size,fun k hk hs=>(Below.heap_setCell _ _ _ _ (fun e=>by omega)).trans (h.block k hk hs)⟩
theorem Rr.other {w:World} {nx:Nat} {fc fa pt:Int} (h:Rr w b g cap ao I nx fc fa pt) {p:Addr} (hb:p.block≠b) (hg:p.block≠g) (u:Value):Rr (w.setCell p u) b g cap ao I nx fc fa pt :=
 ⟨(Below.heap_setCell _ _ _ _ (fun e=>hb e.symm)).trans h.here,fun h0=>⟨(h.toks h0).1,by simpa [World.setCell] using (h.toks h0).2.1,(h.toks h0).2.2.keep (Below.heap_setCell _ _ _ _ (fun e=>hg e.symm))⟩,h.apart,h.le,h.lc,h.cm⟩
theorem Rr.step {w:World} {nx:Nat} {fc fa pt:Int} (h:Rr w b g cap ao I nx fc fa pt) (hn:nx<I.L.length):Rr (w.setCell ⟨b,1,none⟩ (.int .i64 ((nx:Int)+1))) b g cap ao I (nx+1) fc fa pt:=h.move (nx+1) hn
def ofR (I:Inp) (k:Int) (n:Nat):Res Tk.Tok:=if n<I.L.length∧(I.pk n).kind=k then .ok (I.pk n) (n+1) else Ps.refuse I n
def ofV (r:Res Tk.Tok):Tk.Tok:=match r with | .ok t _=>t | .err _ _=>noTok
theorem zBi {w:World} {nx:Nat} {pt:Int} (h:Rr w b g cap ao I nx 0 0 pt) (hk:∀ n,n<I.L.length→(I.pk n).kind≠0) (hgb:g<w.heap.size) (k:Int) :
  Calls Tryz.prog 66 #[.pointer (some ⟨b,0,none⟩),.int .i64 k] w fun e w'=>e=.returned (tokV (ofV (ofR I k nx)))∧Went w' b g cap ao I pt (ofR I k nx)∧Aside [b] w.heap.size w w':=by
 obtain ⟨W,hW⟩:=nm (w.alloc (.cells #[.int .i64 0,.int .i64 0,.string ⟨#[]⟩,.int .i64 0] 71 (0,0)));have bW:=xA hW;have hK:=xE hW;have hle:=h.le;have hcm:=h.cm;have hlc:=h.lc;have hbb:=h.cells.2.2.2.2.2.2;unfold maxLen at hcm;by_cases hn:nx<I.L.length
 ·have e:I.pk nx=I.L[nx]:=by unfold Inp.pk peekT;rw [dif_pos hn]
  have ha:¬(I.L.length:Int)≤(nx:Int):=(by omega);by_cases hkk:(I.pk nx).kind=k
  ·have eR:ofR I k nx=.ok (I.pk nx) (nx+1):=by unfold ofR;rw [if_pos ⟨hn,hkk⟩]
   rw [eR];unfold ofV;simp only [];clear eR;rw [e] at hkk ⊢;obtain ⟨t,ht⟩:=nm (I.L[nx]);rw [←ht] at hkk ⊢;subst hkk;have HT:=zD ht;clear e ht;go_enter Tryz.func66,Tryz.ntmps66;go_wp2_with fail;rw [←hW];clear hW;refine (zU (h.past bW)).mono ?_;rintro e2 w1 ⟨rfl,b1⟩;have h1:=(h.past bW).past b1;obtain ⟨rfl,hg,hT⟩:=h1.toks (by omega);obtain ⟨t0,t1,t2,t3⟩:=hT nx hn;rw [←HT.out] at t0 t1 t2 t3;have K1:=(aside b1 (S:=[])).keep hK (zC hK) (by simp);have f1:=fun o=>h1.free o;obtain ⟨d0,d1,d2,d3,d4,d5,hd⟩:=h1.cells;go_wp2_with fail;go_quiet (fail);have bq:Below w1.heap.size w1 (w1.drewN nq):=below_drewN (Below.refl _ _) nq;go_wp2_with fail;obtain ⟨w2,hw2⟩:=nm ((w1.drewN nq).setCell ⟨b,1,none⟩ (.int .i64 ((nx:Int)+1)));have h2:Rr w2 b g cap (some ⟨g,0,none⟩) I (nx+1) 0 0 pt:=(by rw [hw2];exact (h1.past bq).step hn);have K2:w2.heap[w.heap.size]?=some (.cells #[.int .i64 0,.int .i64 0,.string ⟨#[]⟩,.int .i64 0] 71 (0,0)):=by
    rw [hw2,Below.heap_setCell _ _ _ _ (fun e=>by simp at e;omega)];exact (bq.block _ (zC K1)).trans K1
   have A2:Aside [b] w.heap.size w w2:=by
    rw [hw2];exact (((aside bW).trans (aside b1) bW.size).trans (aside bq) (Nat.le_trans bW.size b1.size)).trans (Aside.setCell (by simp) _) nR
   rw [←hw2];clear hw2 bq h1 K1 b1 bW hT t0 t1 t2 t3 d0 d1 d2 d3 d4 d5 f1;obtain ⟨_,hg2,hT2⟩:=h2.toks (by omega);obtain ⟨t0,t1,t2,t3⟩:=hT2 nx hn;rw [←HT.out] at t0 t1 t2 t3;obtain ⟨d0,d1,d2,d3,d4,d5,hd⟩:=h2.cells;have k0:=co K2 0;have k1:=co K2 1;have k2:=co K2 2;have k3:=co K2 3;have fk:=fun o=>fo K2 o;simp only [gT,gZ,gS] at k0 k1 k2 k3;rw [show ((nx+1:Nat):Int)=(nx:Int)+1 by omega] at d1;have hz:=zC K2;have hwr:IntKind.i64.wrap (nx:Int)=(nx:Int):=(by simp [IntKind.wrap,IntKind.signed,IntKind.bits];omega);clear hT2
   go_region
   go_wp2;have hwb:w.heap.size≠b:=(by omega);have hwg:w.heap.size≠g:=(by omega);exact bodyPost_ret (v:=tokV t) (by simp [tokV,results,Tryz.results66,go_sem,k0,k1,k2,k3]) rfl ⟨rfl,((((h2.other (p:=⟨w.heap.size,0,none⟩) hwb hwg _).other (p:=⟨w.heap.size,1,none⟩) hwb hwg _).other (p:=⟨w.heap.size,2,none⟩) hwb hwg _).other (p:=⟨w.heap.size,3,none⟩) hwb hwg _).past (Below.refl _ _).drew,((((A2.past (p:=⟨w.heap.size,0,none⟩) nR _).past (p:=⟨w.heap.size,1,none⟩) nR _).past (p:=⟨w.heap.size,2,none⟩) nR _).past (p:=⟨w.heap.size,3,none⟩) nR _).drew⟩
  ·have eR:ofR I k nx=.err (Ps.refC I nx) (I.pk nx).place:=by unfold ofR;rw [if_neg (fun q=>hkk q.2)];rfl
   rw [e] at hkk;obtain ⟨t,ht⟩:=nm (I.L[nx]);rw [←ht] at hkk;have hkb:(t.kind==k)=false:=beq_eq_false_iff_ne.2 hkk;have hkn:(t.kind != k)=true:=(by rw [bne,hkb];rfl);clear hkk;have HT:=zD ht;clear e ht;rw [eR];unfold ofV;simp only [];clear eR;go_enter Tryz.func66,Tryz.ntmps66;go_wp2_with fail;rw [←hW];clear hW;refine (zU (h.past bW)).mono ?_;rintro e2 w1 ⟨rfl,b1⟩;have h1:=(h.past bW).past b1;obtain ⟨rfl,hg,hT⟩:=h1.toks (by omega);obtain ⟨t0,t1,t2,t3⟩:=hT nx hn;rw [←HT.out] at t0 t1 t2 t3;clear hT;have K1:=(aside b1 (S:=[])).keep hK (zC hK) (by simp);obtain ⟨d0,d1,d2,d3,d4,d5,hd⟩:=h1.cells;go_wp2_with fail;go_quiet (fail);have bq:Below w1.heap.size w1 (w1.drewN nq):=below_drewN (Below.refl _ _) nq;go_wp2_with fail;refine (xG (h1.past bq) 4).mono ?_;rintro e2 w3 ⟨rfl,h3,a3⟩;rw [vD I nx hk] at h3;have z1:=bq.size;have K2:=(aside bq (S:=[])).keep K1 (zC K1) (by simp);have K3:=a3.keep K2 (zC K2) (by simp;omega);have A3:Aside [b] w.heap.size w w3:=(((aside bW).trans (aside b1) bW.size).trans (aside bq) (Nat.le_trans bW.size b1.size)).trans a3 (Nat.le_trans (Nat.le_trans bW.size b1.size) z1);have k0:=co K3 0;have k1:=co K3 1;have k2:=co K3 2;have k3:=co K3 3;have fk:=fun o=>fo K3 o;simp only [gT,gZ,gS] at k0 k1 k2 k3;go_wp2;have hwb:w.heap.size≠b:=(by omega);have hwg:w.heap.size≠g:=(by omega);exact bodyPost_ret (v:=tokV noTok) (by simp [tokV,noTok,str,results,Tryz.results66,go_sem,k0,k1,k2,k3]) rfl ⟨rfl,⟨_,_,(((h3.other (p:=⟨w.heap.size,0,none⟩) hwb hwg _).other (p:=⟨w.heap.size,1,none⟩) hwb hwg _).other (p:=⟨w.heap.size,2,none⟩) hwb hwg _).other (p:=⟨w.heap.size,3,none⟩) hwb hwg _⟩,(((A3.past (p:=⟨w.heap.size,0,none⟩) nR _).past (p:=⟨w.heap.size,1,none⟩) nR _).past (p:=⟨w.heap.size,2,none⟩) nR _).past (p:=⟨w.heap.size,3,none⟩) nR _⟩
 ·have ha:(I.L.length:Int)≤(nx:Int):=by omega
  have eR:ofR I k nx=.err (Ps.refC I nx) (I.pk nx).place:=(by unfold ofR;rw [if_neg (fun q=>hn q.1)];rfl);rw [eR];unfold ofV;simp only [];clear eR;go_enter Tryz.func66,Tryz.ntmps66;go_wp2_with fail;rw [←hW];clear hW;refine (zU (h.past bW)).mono ?_;rintro e2 w1 ⟨rfl,b1⟩;have h1:=(h.past bW).past b1;have K1:=(aside b1 (S:=[])).keep hK (zC hK) (by simp);obtain ⟨d0,d1,d2,d3,d4,d5,hd⟩:=h1.cells;go_wp2_with fail;go_quiet (fail);have bq:Below w1.heap.size w1 (w1.drewN nq):=below_drewN (Below.refl _ _) nq;go_wp2_with fail;refine (xG (h1.past bq) 4).mono ?_;rintro e2 w3 ⟨rfl,h3,a3⟩;rw [vD I nx hk] at h3;have z1:=bq.size;have K2:=(aside bq (S:=[])).keep K1 (zC K1) (by simp);have K3:=a3.keep K2 (zC K2) (by simp;omega);have A3:Aside [b] w.heap.size w w3:=(((aside bW).trans (aside b1) bW.size).trans (aside bq) (Nat.le_trans bW.size b1.size)).trans a3 (Nat.le_trans (Nat.le_trans bW.size b1.size) z1);have k0:=co K3 0;have k1:=co K3 1;have k2:=co K3 2;have k3:=co K3 3;have fk:=fun o=>fo K3 o;simp only [gT,gZ,gS] at k0 k1 k2 k3;go_wp2;have hwb:w.heap.size≠b:=(by omega);have hwg:w.heap.size≠g:=(by omega);exact bodyPost_ret (v:=tokV noTok) (by simp [tokV,noTok,str,results,Tryz.results66,go_sem,k0,k1,k2,k3]) rfl ⟨rfl,⟨_,_,(((h3.other (p:=⟨w.heap.size,0,none⟩) hwb hwg _).other (p:=⟨w.heap.size,1,none⟩) hwb hwg _).other (p:=⟨w.heap.size,2,none⟩) hwb hwg _).other (p:=⟨w.heap.size,3,none⟩) hwb hwg _⟩,(((A3.past (p:=⟨w.heap.size,0,none⟩) nR _).past (p:=⟨w.heap.size,1,none⟩) nR _).past (p:=⟨w.heap.size,2,none⟩) nR _).past (p:=⟨w.heap.size,3,none⟩) nR _⟩
end Go.Proofs.YthkpanbgkimhoaaGreatDoor
namespace Go.Proofs.YthkpanbgkimhoaaGreatDoor
open Go.RowKit Go.IntWalk
variable {b g cap:Nat} {ao:Option Addr} {I:Inp}
theorem of_name (I:Inp) (n:Nat) (hk:∀ n,n<I.L.length→(I.pk n).kind≠0):Ps.name I n=match ofR I 2 n with | .ok t m=>.ok (str t.text) m | .err c a=>.err c a:=by
 unfold Ps.name ofR;by_cases h:(I.pk n).kind=2
 ·have hn:n<I.L.length:=by
   apply Classical.byContradiction
   intro hn;unfold Inp.pk peekT at h;rw [dif_neg hn] at h;simp at h
  rw [if_pos h,if_pos ⟨hn,h⟩]
 ·rw [if_neg h,if_neg (fun q=>h q.2)]
  rfl
theorem zCb:tokV noTok=.agg #[.int .i64 0,.int .i64 0,.string ⟨#[]⟩,.int .i64 0]:=rfl
theorem field_no (x:ByteArray) (w:World):(Instr.field 71 (.agg #[.int .i64 0,.int .i64 0,.string x,.int .i64 0]) 2).run Tryz.prog w=.ok (.string x) w:=by
 kernel_rfl
theorem zCc {w:World} {nx:Nat} {fc fa pt:Int} (h:Rr w b g cap ao I nx fc fa pt) (hf:fc≠0) :
  Calls Tryz.prog 45 #[.pointer (some ⟨b,0,none⟩)] w fun e w'=>e=.returned (.string ⟨#[]⟩)∧Below w.heap.size w w':=by
 have hp:=of_bad h hf 2;rw [zCb] at hp;have hf:=fun x w=>field_no x w;go_enter Tryz.func45,Tryz.ntmps45
 go_wp2_with (go_at_call 66;refine hp.mono ?_;rintro e w' ⟨rfl,hb⟩)
 go_ret;exact ⟨rfl,hb⟩
theorem jZ {w:World} {nx:Nat} {pt:Int} (h:Rr w b g cap ao I nx 0 0 pt) (hk:∀ n,n<I.L.length→(I.pk n).kind≠0) (hgb:g<w.heap.size) :
  Calls Tryz.prog 45 #[.pointer (some ⟨b,0,none⟩)] w fun e w'=>∃ s,e=.returned (.string s)∧Went w' b g cap ao I pt (Ps.name I nx)∧Aside [b] w.heap.size w w'∧∀ v m,Ps.name I nx=.ok v m→s=v:=by
 have hp:=zBi h hk hgb 2;rw [of_name I nx hk]
 cases ho:ofR I 2 nx with
 | ok t m=>
  rw [ho] at hp;unfold tokV ofV at hp;simp only [] at hp ⊢;have hf:=fun x w=>field_tok t x w;go_enter Tryz.func45,Tryz.ntmps45
  go_wp2_with (go_at_call 66;refine hp.mono ?_;rintro e w' ⟨rfl,hb,ha⟩)
  go_ret;exact ⟨_,rfl,hb,ha,fun v m e=>by injection e⟩
 | err c a=>
  rw [ho] at hp;unfold ofV at hp;simp only [] at hp ⊢;rw [zCb] at hp;have hf:=fun x w=>field_no x w;go_enter Tryz.func45,Tryz.ntmps45
  go_wp2_with (go_at_call 66;refine hp.mono ?_;rintro e w' ⟨rfl,hb,ha⟩)
  go_ret;exact ⟨_,rfl,hb,ha,fun v m e=>by cases e⟩
theorem zCd {w:World} {nx:Nat} {fc fa pt:Int} (h:Rr w b g cap ao I nx fc fa pt) (hf:fc≠0) (n most:Int) :
  Calls Tryz.prog 46 #[.pointer (some ⟨b,0,none⟩),.int .i64 n,.int .i64 most] w fun e w'=>e=.returned (.bool false)∧Below w.heap.size w w':=by
 have hb:(fc==0)=false:=beq_eq_false_iff_ne.2 hf;have hb2:(fc != 0)=true:=(by rw [bne,hb];rfl);go_enter Tryz.func46,Tryz.ntmps46
 go_wp2_with (first | (go_at_call 15;refine (zU h).mono ?_;rintro e w1 ⟨rfl,b1⟩))
 go_ret;exact ⟨rfl,b1⟩
theorem d44:(⟨#[44]⟩:ByteArray).data.toList=[44]:=rfl
def commaR (I:Inp) (n most:Int) (nx:Nat):Res Bool :=
 if Ps.sees I [44] nx=true then if most≤n then .err 7 (I.pk (nx+1)).place else .ok true (nx+1) else .ok false nx
theorem comma_any {w:World} {nx:Nat} {pt:Int} (h:Rr w b g cap ao I nx 0 0 pt) (hk:∀ n,n<I.L.length→(I.pk n).kind≠0) (hs:Known I [44]) (n most:Int) :
  Calls Tryz.prog 46 #[.pointer (some ⟨b,0,none⟩),.int .i64 n,.int .i64 most] w fun e w'=>∃ v,e=.returned (.bool v)∧Went w' b g cap ao I pt (commaR I n most nx)∧Aside [b] w.heap.size w w'∧(match commaR I n most nx with | .ok u _=>v=u | .err _ _=>v=false):=by
 have hle:=h.le;have hcm:=h.cm;have hlc:=h.lc;unfold maxLen at hcm;unfold commaR;by_cases hx:Ps.sees I [44] nx=true
 ·have hn:nx<I.L.length:=by
   have:=hs nx;rw [hx] at this;unfold seesW at this;simp at this;exact this.1.1
  rw [if_pos hx];by_cases hm:most≤n
  ·rw [if_pos hm]
   have hdm:decide (most≤n)=true:=(by simpa using hm);go_enter Tryz.func46,Tryz.ntmps46;go_wp2_with fail;refine (zU h).mono ?_;rintro e w1 ⟨rfl,b1⟩;have h1:=h.past b1;go_wp2_with fail;refine (xO h1 ⟨#[44]⟩).mono ?_;rintro e w2 ⟨rfl,b2⟩;rw [d44,hs nx,hx];have h2:=h1.past b2;have A2:Aside [b] w.heap.size w w2:=(aside b1).trans (aside b2) b1.size;have f2:=fun o=>h2.free o;obtain ⟨d0,d1,d2,d3,d4,d5,hd⟩:=h2.cells;have h3:=h2.step hn;have A3:=A2.trans (Aside.setCell (S:=[b]) (B:=w.heap.size) (p:=⟨b,1,none⟩) (by simp) (.int .i64 ((nx:Int)+1))) nR;have z3:w.heap.size≤(w2.setCell ⟨b,1,none⟩ (.int .i64 ((nx:Int)+1))).heap.size:=A3.size;go_wp2_with fail;refine (xG h3 7).mono ?_;rintro e w4 ⟨rfl,h4,a4⟩;rw [show refW I (nx+1) 7=7 from if_neg (fun q=>by omega)] at h4;have A4:=A3.trans a4 z3;go_wp2_with fail;refine (zU h4).mono ?_;rintro e w5 ⟨rfl,b5⟩;go_wp2;go_ret;exact ⟨_,rfl,⟨_,_,h4.past b5⟩,A4.trans (aside b5) A4.size,rfl⟩
  ·rw [if_neg hm]
   have hdm:decide (most≤n)=false:=(by simpa using hm);go_enter Tryz.func46,Tryz.ntmps46;go_wp2_with fail;refine (zU h).mono ?_;rintro e w1 ⟨rfl,b1⟩;have h1:=h.past b1;go_wp2_with fail;refine (xO h1 ⟨#[44]⟩).mono ?_;rintro e w2 ⟨rfl,b2⟩;rw [d44,hs nx,hx];have h2:=h1.past b2;have A2:Aside [b] w.heap.size w w2:=(aside b1).trans (aside b2) b1.size;have f2:=fun o=>h2.free o;obtain ⟨d0,d1,d2,d3,d4,d5,hd⟩:=h2.cells;have h3:=h2.step hn;have A3:=A2.trans (Aside.setCell (S:=[b]) (B:=w.heap.size) (p:=⟨b,1,none⟩) (by simp) (.int .i64 ((nx:Int)+1))) nR;have z3:w.heap.size≤(w2.setCell ⟨b,1,none⟩ (.int .i64 ((nx:Int)+1))).heap.size:=A3.size;go_wp2_with fail;refine (zU h3).mono ?_;rintro e w5 ⟨rfl,b5⟩;go_wp2;go_ret;exact ⟨_,rfl,h3.past b5,A3.trans (aside b5) z3,rfl⟩
 ·have hx:Ps.sees I [44] nx=false:=by simpa using hx
  rw [if_neg (by rw [hx];simp)];go_enter Tryz.func46,Tryz.ntmps46;go_wp2_with fail;refine (zU h).mono ?_;rintro e w1 ⟨rfl,b1⟩;have h1:=h.past b1;go_wp2_with fail;refine (xO h1 ⟨#[44]⟩).mono ?_;rintro e w2 ⟨rfl,b2⟩;rw [d44,hs nx,hx];have h2:=h1.past b2;have A2:Aside [b] w.heap.size w w2:=(aside b1).trans (aside b2) b1.size;go_wp2;go_ret;exact ⟨_,rfl,h2,A2,rfl⟩
theorem Rr.part {w:World} {nx:Nat} {fc fa pt:Int} (h:Rr w b g cap ao I nx fc fa pt) (m:Int) :
  Rr (w.setCell ⟨b,5,none⟩ (.int .i64 m)) b g cap ao I nx fc fa m:=by
 refine ⟨?_,fun h0=>⟨(h.toks h0).1,by simpa [World.setCell] using (h.toks h0).2.1,(h.toks h0).2.2.keep (Below.heap_setCell _ _ _ _ (fun e=>h.apart e.symm))⟩,h.apart,h.le,h.lc,h.cm⟩;simp [World.setCell,Array.getElem?_modify,h.here]
def opensR (I:Inp) (op nx:Nat):Res Unit:=if 60≤op then .err 6 (I.pk nx).place else .ok () (nx+1)
theorem opens_any {w:World} {nx:Nat} {pt:Int} (h:Rr w b g cap ao I nx 0 0 pt) (hn:nx<I.L.length) (op:Nat) :
  Calls Tryz.prog 105 #[.pointer (some ⟨b,0,none⟩),.int .i64 (op:Int)] w fun e w'=>e=.returned (.bool (decide (op<60)))∧Went w' b g cap ao I pt (opensR I op nx)∧Aside [b] w.heap.size w w':=by
 have hle:=h.le;have hcm:=h.cm;have hlc:=h.lc;unfold maxLen at hcm;unfold opensR;by_cases ho:60≤op
 ·rw [if_pos ho]
  have hd1:decide (op<60)=false:=(by simp;omega);rw [hd1];have hd2:decide ((60:Int)≤(op:Int))=true:=(by simp;omega);clear hd1;go_enter Tryz.func105,Tryz.ntmps105;go_wp2_with fail;refine (zU h).mono ?_;rintro e w1 ⟨rfl,b1⟩;have h1:=h.past b1;go_wp2_with fail;refine (xG h1 6).mono ?_;rintro e w2 ⟨rfl,h2,a2⟩;rw [show refW I nx 6=6 from if_neg (fun q=>by omega)] at h2;go_wp2;go_ret;exact ⟨rfl,⟨_,_,h2⟩,(aside b1).trans a2 b1.size⟩
 ·rw [if_neg ho]
  have hd1:decide (op<60)=true:=(by simp;omega);rw [hd1];have hd2:decide ((60:Int)≤(op:Int))=false:=(by simp;omega);clear hd1;go_enter Tryz.func105,Tryz.ntmps105;go_wp2_with fail;refine (zU h).mono ?_;rintro e w1 ⟨rfl,b1⟩;have h1:=h.past b1;have f1:=fun o=>h1.free o;obtain ⟨d0,d1,d2,d3,d4,d5,hd⟩:=h1.cells;go_wp2;go_ret;exact ⟨rfl,h1.step hn,(aside b1 (S:=[b])).trans (Aside.setCell (by simp) _) nR⟩
def exA (y:ExV):Value:=.agg #[.int .i64 y.op,.int .i64 y.k,.int .i64 y.n,.string y.name,.slice y.aS y.nS y.cS,.slice y.aL y.nL y.cL]
theorem partR_any {w:World} {nx:Nat} {fc fa pt:Int} (h:Rr w b g cap ao I nx fc fa pt) (y:ExV) :
  Calls Tryz.prog 97 #[.pointer (some ⟨b,0,none⟩),exA y] w fun e w'=>e=.returned (exA y)∧Rr w' b g cap ao I nx fc fa (wrap64 (pt+1))∧Aside [b] w.heap.size w w':=by
 unfold exA;have f0:=fun o=>h.free o;obtain ⟨d0,d1,d2,d3,d4,d5,hd⟩:=h.cells;go_enter Tryz.func97,Tryz.ntmps97;go_wp2;have hb:∀ x y,Below (w.setCell ⟨b,5,none⟩ (.int .i64 (wrap64 (pt+1)))).heap.size (w.setCell ⟨b,5,none⟩ (.int .i64 (wrap64 (pt+1)))) (((w.setCell ⟨b,5,none⟩ (.int .i64 (wrap64 (pt+1)))).alloc x).alloc y):=fun x y=>((Below.refl _ _).alloc nR x).alloc (by simp) y;exact bodyPost_ret (v:=exA y) (by simp [exA,results,Tryz.results97,go_sem]) rfl ⟨rfl,(h.part _).past (hb _ _),(Aside.setCell (S:=[b]) (B:=w.heap.size) (by simp) _).trans (aside (hb _ _)) (by simp [World.setCell])⟩
end Go.Proofs.YthkpanbgkimhoaaGreatDoor
namespace Go.Proofs.YthkpanbgkimhoaaGreatDoor
open Go.RowKit Go.IntWalk
def eqL {α:Type} (f:α→α→Bool):List α→List α→Bool
 | [],[]=>true
 | a :: l,b :: r=>f a b&&eqL f l r
 | _,_=>false
theorem zAq {α:Type} {f:α→α→Bool}:∀ {l r:List α},l.length≠r.length→eqL f l r=false
 | [],[],h=>by simp at h
 | [],_ :: _,_=>rfl
 | _ :: _,[],_=>rfl
 | a :: l,b :: r,h=>by
  have:eqL f l r=false:=zAq (by simpa using h);simp [eqL,this]
theorem jI {α:Type} {f:α→α→Bool}:∀ {l r:List α},l.length=r.length→(∀ i (h:i<l.length) (h':i<r.length),f l[i] r[i]=true)→eqL f l r=true
 | [],[],_,_=>rfl
 | [],_ :: _,h,_=>by simp at h
 | _ :: _,[],h,_=>by simp at h
 | a :: l,b :: r,h,hf=>by
  have h1:=hf 0 (by simp) (by simp);have h2:eqL f l r=true:=jI (by simpa using h) (fun i hi hi'=>hf (i+1) (by simpa using hi) (by simpa using hi'));simp at h1;simp [eqL,h1,h2]
theorem qV {α:Type} {f:α→α→Bool}:∀ {l r:List α} (i:Nat) (h:i<l.length) (h':i<r.length),f l[i] r[i]=false→eqL f l r=false
 | [],_,i,h,_,_=>by simp at h
 | _ :: _,[],i,_,h',_=>by simp at h'
 | a :: l,b :: r,0,_,_,hf=>by simp at hf;simp [eqL,hf]
 | a :: l,b :: r,i+1,h,h',hf=>by
  have:eqL f l r=false:=qV i (by simpa using h) (by simpa using h') (by simpa using hf);simp [eqL,this]
theorem xJ {α:Type} {f:α→α→Bool} (l:List α) (h:∀ a,a ∈ l→f a a=true):eqL f l l=true:=jI rfl (fun i hi _=>h _ (List.getElem_mem hi))
def seq (a b:ByteArray):Bool:=a.toList==b.toList
def teq (a b:Tm):Bool:=a.1==b.1&&seq a.2 b.2
theorem jN (a:ByteArray):seq a a=true:=by simp [seq]
theorem teq_refl (a:Tm):teq a a=true:=by simp [teq,seq]
theorem HNames.at {ok:Nat→Prop} {w:World} {v:Value} {l:List ByteArray} (h:HNames ok w v l) :
  ∃ ao cap,v=.slice ao l.length cap∧l.length≤cap∧cap≤maxLen∧∀ i (h:i<l.length),∃ b o,ao=some ⟨b,o,none⟩∧b<w.heap.size∧w.cell? ⟨b,o+i,none⟩=some (.string l[i]):=by
 obtain ⟨C,⟨ao,cap,hv,h1,h2,h3⟩,hC⟩:=h;refine ⟨ao,cap,hv,h1,h2,fun i hi=>?_⟩;obtain ⟨b,o,ha,hob,hb,hc⟩:=h3 (by omega);have:=(hc i hi).2 0 (by decide);rw [hC i hi] at this;exact ⟨b,o,ha,hb,by simpa using this⟩
theorem HTerms.at {ok:Nat→Prop} {w:World} {v:Value} {l:List Tm} (h:HTerms ok w v l) :
  ∃ ao cap,v=.slice ao l.length cap∧l.length≤cap∧cap≤maxLen∧∀ i (h:i<l.length),∃ b o,ao=some ⟨b,o,none⟩∧b<w.heap.size∧w.cell? ⟨b,o+i*2,none⟩=some (.int .i64 (l[i]).1)∧w.cell? ⟨b,o+i*2+1,none⟩=some (.string (l[i]).2):=by
 obtain ⟨C,⟨ao,cap,hv,h1,h2,h3⟩,hC⟩:=h;refine ⟨ao,cap,hv,h1,h2,fun i hi=>?_⟩;obtain ⟨b,o,ha,hob,hb,hc⟩:=h3 (by omega);have t0:=(hc i hi).2 0 (by decide);have t1:=(hc i hi).2 1 (by decide);rw [hC i hi] at t0 t1;exact ⟨b,o,ha,hb,by simpa using t0,by simpa using t1⟩
theorem neqTerm (x1 y1:Int) (x2 y2:ByteArray) (w:World):(binOp .neq 99 (.agg #[.int .i64 x1,.string x2]) (.agg #[.int .i64 y1,.string y2])).run Tryz.prog w=.ok (.bool (!(teq (x1,x2) (y1,y2)))) w:=by
 simp [go_sem,teq,seq];by_cases h1:x1=y1<;>by_cases h2:x2.toList=y2.toList<;>simp [h1,h2]
theorem zDs {ok ok':Nat→Prop} {w:World} {v u:Value} {l r:List Tm} (hl:HTerms ok w v l) (hr:HTerms ok' w u r) :
  Calls Tryz.prog 88 #[v,u] w fun e w'=>e=.returned (.bool (eqL teq l r))∧Below w.heap.size w w':=by
 obtain ⟨ao,cap,rfl,hc1,hc2,hat⟩:=hl.at;obtain ⟨ao',cap',rfl,hd1,hd2,hat'⟩:=hr.at;unfold maxLen at hc2 hd2;obtain ⟨R,hR⟩:=nm (eqL teq l r);rw [←hR];have HR:=zD hR;clear hR hl hr;obtain ⟨n,hn⟩:=nm (l.length);obtain ⟨m,hm⟩:=nm (r.length);rw [←hn] at hc1 ⊢;rw [←hm] at hd1 ⊢;have HN:=zD hn;have HM:=zD hm;by_cases hlen:n=m
 ·subst hlen
  have hq:((n:Int) != (n:Int))=false:=(by simp);clear hn hm;go_enter Tryz.func88,Tryz.ntmps88;go_wp2;go_loopg [13] n (fun k v wr=>∃ i,i≤n∧k=n-i∧v=.int .i64 (i:Nat)∧Hid (∀ j (h:j<l.length) (h':j<r.length),j<i→teq l[j] r[j]=true)∧Below w.heap.size w wr)
  case atStart=>exact ⟨0,Nat.zero_le _,rfl,rfl,fun j _ _ h=>absurd h (Nat.not_lt_zero _),Below.refl _ _⟩
  case round=>
   obtain ⟨i,hi,rfl,rfl,H,hbr⟩:=hrel;by_cases hlt:i<n
   ·have hltr:=hlt
    obtain ⟨b,o,rfl,hb,hc,hd⟩:=hat i (by have:=HN.out;omega);obtain ⟨b',o',rfl,hb',hc',hd'⟩:=hat' i (by have:=HM.out;omega);have e1:=(hbr.cell (p:=⟨b,o+i*2,none⟩) hb).trans hc;have e2:=(hbr.cell (p:=⟨b',o'+i*2,none⟩) hb').trans hc';have e3:=(hbr.cell (p:=⟨b,o+i*2+1,none⟩) hb).trans hd;have e4:=(hbr.cell (p:=⟨b',o'+i*2+1,none⟩) hb').trans hd';have hil:i<l.length:=(by have:=HN.out;omega);have hir:i<r.length:=(by have:=HM.out;omega);obtain ⟨x,hx⟩:=nm (l[i]);obtain ⟨y,hy⟩:=nm (r[i]);rw [←hx] at e1 e3;rw [←hy] at e2 e4;have HX:=zD hx;have HY:=zD hy;clear hat hat' hc hc' hd hd' hx hy;obtain ⟨x1,x2⟩:=x;obtain ⟨y1,y2⟩:=y
    cases hxy:teq (x1,x2) (y1,y2)
    ·
     have hne:=fun w=>neqTerm x1 y1 x2 y2 w;rw [hxy] at hne;go_wp2
     go_region
     go_wp2;go_ret;refine ⟨zV ?_,hbr.drew⟩;rw [HR.out];exact (qV i (by rw [←HN.out];exact hlt) (by rw [←HM.out];exact hlt) (by rw [←HX.out,←HY.out];exact hxy)).symm
    ·
     have hne:=fun w=>neqTerm x1 y1 x2 y2 w;rw [hxy] at hne;go_wp2
     go_region
     go_wp2;go_roundg (n-(i+1))
     case measure=>omega
     case rel=>
      refine ⟨i+1,by omega,rfl,by go_num,fun j hj hj' hji=>?_,hbr.drew⟩;by_cases e:j=i
      ·subst e
       rw [←HX.out,←HY.out];exact hxy
      ·exact H.out j hj hj' (by omega)
   ·have hie:i=n:=by omega
    subst hie;clear hat hat';go_wp2;go_ret;refine ⟨zV ?_,hbr⟩;rw [HR.out];exact (jI (by rw [←HN.out,←HM.out]) (fun j hj hj'=>H.out j hj hj' (by rw [HN.out];exact hj))).symm
 ·have hq:((n:Int) != (m:Int))=true:=by simp;omega
  clear hat hat' hn hm;go_enter Tryz.func88,Tryz.ntmps88;go_wp2;go_ret;refine ⟨zV ?_,Below.refl _ _⟩;rw [HR.out];exact (zAq (by rw [←HN.out,←HM.out];exact hlen)).symm
theorem sameSize_any {ok ok':Nat→Prop} {w:World} {v u:Value} {l r:List Tm} (hl:HTerms ok w v l) (hr:HTerms ok' w u r) :
  Calls Tryz.prog 70 #[v,u] w fun e w'=>e=.returned (.bool (eqL teq l r))∧Below w.heap.size w w':=by
 go_enter Tryz.func70,Tryz.ntmps70;go_wp2_with fail;refine (zDs hl hr).mono ?_;rintro e w' ⟨rfl,hb⟩;go_wp2;go_ret;exact ⟨rfl,hb⟩
theorem zAz {I:Inp} {n:Nat}:∀ (l:List (List UInt8)) (i:Nat) (k:Int),(∀ j (h:j<l.length),j<i→Ps.sees I l[j] n=false)→Ps.wordAt I n l k=Ps.wordAt I n (l.drop i) (k+i)
 | l,0,k,h=>by simp
 | [],i+1,k,h=>by simp [Ps.wordAt]
 | x :: l,i+1,k,h=>by
  have h0:=h 0 (by simp) (by omega);simp only [List.getElem_cons_zero] at h0;rw [Ps.wordAt,if_neg (by rw [h0];simp),zAz l i (k+1) (fun j hj hji=>by have:=h (j+1) (by simp;omega) (by omega);simpa using this)];simp only [List.drop_succ_cons]
  congr 1
  omega
def whichI (I:Inp) (l:List (List UInt8)) (n:Nat):Int:=(Ps.wordAt I n l 0).getD (-1)
theorem zX {w:World} {b g cap:Nat} {ao:Option Addr} {I:Inp} {nx:Nat} {fc fa pt:Int} (h:Rr w b g cap ao I nx fc fa pt) {ok:Nat→Prop} {v:Value} (l:List (List UInt8)) (hl:HNames ok w v (l.map str)) (hK:∀ x ∈ l,Known I x) :
  Calls Tryz.prog 67 #[.pointer (some ⟨b,0,none⟩),v] w fun e w'=>e=.returned (.int .i64 (whichI I l nx))∧Below w.heap.size w w':=by
 obtain ⟨ao2,cap2,rfl,hc1,hc2,hat⟩:=hl.at;unfold maxLen at hc2;obtain ⟨R,hR⟩:=nm (whichI I l nx);rw [←hR];have HR:=zD hR;clear hR hl;have hlm:(l.map str).length=l.length:=(by simp);rw [hlm] at hc1 ⊢;obtain ⟨n,hn⟩:=nm (l.length);rw [←hn] at hc1 ⊢;have HN:=zD hn;clear hn hlm;go_enter Tryz.func67,Tryz.ntmps67;go_wp2;go_loopg [5] n (fun k u wr=>∃ i,i≤n∧k=n-i∧u=.int .i64 (i:Nat)∧Hid (∀ j (h:j<l.length),j<i→Ps.sees I l[j] nx=false)∧Below w.heap.size w wr)
 case atStart=>exact ⟨0,Nat.zero_le _,rfl,rfl,fun j _ h=>absurd h (Nat.not_lt_zero _),Below.refl _ _⟩
 case round=>
  obtain ⟨i,hi,rfl,rfl,H,bw⟩:=hrel;have yw:=bw.size;by_cases hlt:i<n
  ·have hil:i<l.length:=by have:=HN.out;omega
   obtain ⟨b2,o2,rfl,hb2,hc⟩:=hat i (by simpa using hil);have e1:=(bw.cell (p:=⟨b2,o2+i,none⟩) hb2).trans hc;rw [List.getElem_map] at e1;have hkn:=hK l[i] (List.getElem_mem hil) nx;obtain ⟨x,hx⟩:=nm (l[i]);rw [←hx] at e1 hkn;have hsee:=xO (h.past bw) (str x);rw [show (str x).data.toList=x from rfl,hkn] at hsee;have HX:=zD hx;clear hx hc hkn
   cases hq:Ps.sees I x nx
   ·rw [hq] at hsee
    have HQ:=zD hq;clear hq;go_wp2_with fail;refine hsee.mono ?_;rintro e w2 ⟨rfl,b2'⟩;have bw2:=bw.trans (b2'.mono yw);clear bw b2' hsee;go_wp2;go_roundg (n-(i+1))
    case rel=>exact ⟨i+1,by omega,rfl,by go_num,fun j hj hji=>by
     by_cases e:j=i
     ·subst e;rw [←HX.out];exact HQ.out
     ·exact H.out j hj (by omega),bw2⟩
    case measure=>omega
   ·rw [hq] at hsee
    have hRi:R=(i:Int):=by
     rw [HR.out];unfold whichI;rw [zAz l i 0 H.out,List.drop_eq_getElem_cons hil,←HX.out,Ps.wordAt,if_pos hq];simp
    subst hRi;clear hq;go_wp2_with fail;refine hsee.mono ?_;rintro e w2 ⟨rfl,b2'⟩;have bw2:=bw.trans (b2'.mono yw);clear bw b2' hsee;go_wp2;go_ret;exact ⟨rfl,bw2⟩
  ·have hRi:R = -1:=by
    rw [HR.out];unfold whichI;rw [zAz l l.length 0 (fun j hj _=>H.out j hj (by have:=HN.out;omega))];simp [Ps.wordAt]
   subst hRi;go_wp2;go_ret;exact ⟨rfl,bw⟩
end Go.Proofs.YthkpanbgkimhoaaGreatDoor
