import Derived.Test.YthkpanbgkimhoaaGreatDoorM03
import Derived.Deep.RegionWith
import Derived.Test.YthkpanbgkimhoaaGreatDoorM02
set_option linter.unusedVariables false
set_option linter.unusedSimpArgs false
set_option maxHeartbeats 64000000
set_option maxRecDepth 100000
namespace Go.Proofs.YthkpanbgkimhoaaGreatDoor
open Go.RowKit Go.IntWalk
theorem zAu (k p n:Int) (x:ByteArray) (w:World):(Instr.field 71 (.agg #[.int .i64 k,.int .i64 p,.string x,.int .i64 n]) 3).run Tryz.prog w=.ok (.int .i64 n) w:=by
 kernel_rfl
theorem zBX (x:ByteArray) (w:World):(Instr.field 71 (.agg #[.int .i64 0,.int .i64 0,.string x,.int .i64 0]) 3).run Tryz.prog w=.ok (.int .i64 0) w:=by
 kernel_rfl
theorem d42:(⟨#[42]⟩:ByteArray).data.toList=[42]:=rfl
structure Sure (I:Inp):Prop where
 kind:∀ n,n<I.L.length→(I.pk n).kind≠0
 place:∀ n,n<I.L.length→(I.pk n).place≤I.len
 num:∀ n,0≤(I.pk n).n∧(I.pk n).n<1000000000000000000
 known:∀ s,(Tk.isWord s=true∨(s.length≤2∧∀ c ∈ s,Tk.isR (c.toNat:Int)=false))→s≠[]→Known I s
theorem termR_bad {w:World} {b g cap:Nat} {ao:Option Addr} {I:Inp} {nx:Nat} {fc fa pt:Int} (h:Rr w b g cap ao I nx fc fa pt) (hf:fc≠0) (s:Int) :
  Calls Tryz.prog 86 #[.pointer (some ⟨b,0,none⟩),.int .i64 s] w fun e w'=>∃ n x,e=.returned (.agg #[.int .i64 n,.string x])∧Below w.heap.size w w':=by
 have hfb:(fc==0)=false:=beq_eq_false_iff_ne.2 hf;obtain ⟨W,hW⟩:=nm (w.alloc (.cells #[.int .i64 0,.string ⟨#[]⟩] 99 (0,0)));have bW:=xA hW;have hK:=xE hW;have yW:=bW.size;have hle:=h.le;have hcm:=h.cm;have hlc:=h.lc;have hbb:=h.cells.2.2.2.2.2.2;unfold maxLen at hcm;by_cases hn:nx<I.L.length
 ·have ha:(nx:Int)<(I.L.length:Int):=by omega
  have e:I.pk nx=I.L[nx]:=(by unfold Inp.pk peekT;rw [dif_pos hn]);obtain ⟨t,ht⟩:=nm (I.L[nx]);rw [←ht] at e;have HT:=zD ht;clear ht;by_cases hkk:t.kind=2
  ·have hkb:(t.kind==2)=true:=beq_iff_eq.2 hkk
   go_enter Tryz.func86,Tryz.ntmps86;go_wp2_with fail;rw [←hW];clear hW;have hw0:=h.past bW;obtain ⟨rfl,hg,hT⟩:=hw0.toks (by omega);obtain ⟨t0,t1,t2,t3⟩:=hT nx hn;rw [←HT.out] at t0 t1 t2 t3;clear hT;obtain ⟨d0,d1,d2,d3,d4,d5,hd⟩:=hw0.cells;go_quiet (fail);have bq:Below W.heap.size W (W.drewN nq):=below_drewN (Below.refl _ _) nq;have h1:=hw0.past bq;have K1:=(bq.block _ (zC hK)).trans hK;have y1:=bq.size;generalize W.drewN nq=w1 at h1 K1 bq y1 ⊢;clear d0 d1 d2 d3 d4 d5 hd;go_wp2_with fail;refine (zCc h1 hf).mono ?_;rintro e2 w2 ⟨rfl,b2⟩;have K2:=(b2.block _ (zC K1)).trans K1;have B2:Below w.heap.size w w2:=(bW.trans (bq.mono yW)).trans (b2.mono (Nat.le_trans yW y1));have k0:=co K2 0;have k1:=co K2 1;have fk:=fun o=>fo K2 o;have hz:=zC K2;simp only [gT,gZ,gS] at k0 k1;go_wp2;exact bodyPost_ret (v:=.agg #[.int .i64 s,.string ⟨#[]⟩]) (by simp [results,Tryz.results86,go_sem,k0,k1]) rfl ⟨_,_,rfl,(B2.setCell (p:=⟨w.heap.size,0,none⟩) nR _).setCell (p:=⟨w.heap.size,1,none⟩) nR _⟩
  ·have hkb:(t.kind==2)=false:=beq_eq_false_iff_ne.2 hkk
   go_enter Tryz.func86,Tryz.ntmps86;go_wp2_with fail;rw [←hW];clear hW;have hw0:=h.past bW;obtain ⟨rfl,hg,hT⟩:=hw0.toks (by omega);obtain ⟨t0,t1,t2,t3⟩:=hT nx hn;rw [←HT.out] at t0 t1 t2 t3;clear hT;obtain ⟨d0,d1,d2,d3,d4,d5,hd⟩:=hw0.cells;go_quiet (fail);have bq:Below W.heap.size W (W.drewN nq):=below_drewN (Below.refl _ _) nq;have h1:=hw0.past bq;have K1:=(bq.block _ (zC hK)).trans hK;have y1:=bq.size;generalize W.drewN nq=w1 at h1 K1 bq y1 ⊢;clear d0 d1 d2 d3 d4 d5 hd;go_wp2_with fail;have hp:=of_bad h1 hf 3;rw [zCb] at hp;have hf3:=fun x w=>zBX x w;refine hp.mono ?_;rintro e2 w2 ⟨rfl,b2⟩;have h2:=h1.past b2;have K2:=(b2.block _ (zC K1)).trans K1;have B2:Below w.heap.size w w2:=(bW.trans (bq.mono yW)).trans (b2.mono (Nat.le_trans yW y1));have y2:=B2.size;go_wp2_with fail;obtain ⟨w3,hw3⟩:=nm (w2.alloc (.cells #[.int .i64 0,.string ⟨#[]⟩] 99 (0,0)));have b3:=xA hw3;have J3:=xE hw3;rw [←hw3];clear hw3;have h3:=h2.past b3;refine (zU h3).mono ?_;rintro e2 w4 ⟨rfl,b4⟩;have K4:=(b4.block _ (by have:=b3.size;have:=zC K2;omega)).trans ((b3.block _ (zC K2)).trans K2);have J4:=(b4.block _ (zC J3)).trans J3;have B4:Below w.heap.size w w4:=(B2.trans (b3.mono y2)).trans (b4.mono (Nat.le_trans y2 b3.size));have k0:=co K4 0;have k1:=co K4 1;have fk:=fun o=>fo K4 o;have hz:=zC K4;simp only [gT,gZ,gS] at k0 k1;have j0:=co J4 0;have j1:=co J4 1;have hzj:=zC J4;simp only [gT,gZ,gS] at j0 j1;go_wp2;exact bodyPost_ret (v:=.agg #[.int .i64 0,.string ⟨#[]⟩]) (by simp [results,Tryz.results86,go_sem,k0,k1]) rfl ⟨_,_,rfl,(B4.setCell (p:=⟨w.heap.size,0,none⟩) nR _).setCell (p:=⟨w.heap.size,1,none⟩) nR _⟩
 ·have ha:¬(nx:Int)<(I.L.length:Int):=by omega
  go_enter Tryz.func86,Tryz.ntmps86;go_wp2_with fail;rw [←hW];clear hW;have hw0:=h.past bW;obtain ⟨d0,d1,d2,d3,d4,d5,hd⟩:=hw0.cells;go_quiet (fail);have bq:Below W.heap.size W (W.drewN nq):=below_drewN (Below.refl _ _) nq;have h1:=hw0.past bq;have K1:=(bq.block _ (zC hK)).trans hK;have y1:=bq.size;generalize W.drewN nq=w1 at h1 K1 bq y1 ⊢;clear d0 d1 d2 d3 d4 d5 hd;go_wp2_with fail;have hp:=of_bad h1 hf 3;rw [zCb] at hp;have hf3:=fun x w=>zBX x w;refine hp.mono ?_;rintro e2 w2 ⟨rfl,b2⟩;have h2:=h1.past b2;have K2:=(b2.block _ (zC K1)).trans K1;have B2:Below w.heap.size w w2:=(bW.trans (bq.mono yW)).trans (b2.mono (Nat.le_trans yW y1));have y2:=B2.size;go_wp2_with fail;obtain ⟨w3,hw3⟩:=nm (w2.alloc (.cells #[.int .i64 0,.string ⟨#[]⟩] 99 (0,0)));have b3:=xA hw3;have J3:=xE hw3;rw [←hw3];clear hw3;have h3:=h2.past b3;refine (zU h3).mono ?_;rintro e2 w4 ⟨rfl,b4⟩;have K4:=(b4.block _ (by have:=b3.size;have:=zC K2;omega)).trans ((b3.block _ (zC K2)).trans K2);have J4:=(b4.block _ (zC J3)).trans J3;have B4:Below w.heap.size w w4:=(B2.trans (b3.mono y2)).trans (b4.mono (Nat.le_trans y2 b3.size));have k0:=co K4 0;have k1:=co K4 1;have fk:=fun o=>fo K4 o;have hz:=zC K4;simp only [gT,gZ,gS] at k0 k1;have j0:=co J4 0;have j1:=co J4 1;have hzj:=zC J4;simp only [gT,gZ,gS] at j0 j1;go_wp2;exact bodyPost_ret (v:=.agg #[.int .i64 0,.string ⟨#[]⟩]) (by simp [results,Tryz.results86,go_sem,k0,k1]) rfl ⟨_,_,rfl,(B4.setCell (p:=⟨w.heap.size,0,none⟩) nR _).setCell (p:=⟨w.heap.size,1,none⟩) nR _⟩
theorem jY {w:World} {b g cap:Nat} {ao:Option Addr} {I:Inp} {nx:Nat} {pt:Int} (h:Rr w b g cap ao I nx 0 0 pt) (hS:Sure I) (hgb:g<w.heap.size) (minus:Bool) (s:Int) (hs:s=if minus=true then -1 else 1) :
  Calls Tryz.prog 86 #[.pointer (some ⟨b,0,none⟩),.int .i64 s] w fun e w'=>∃ n x,e=.returned (.agg #[.int .i64 n,.string x])∧Went w' b g cap ao I pt (Ps.term I minus nx)∧Aside [b] w.heap.size w w'∧∀ t m,Ps.term I minus nx=.ok t m→(n,x)=t:=by
 have hs1:s=Ps.sg minus 1:=by rw [hs];cases minus<;>simp [Ps.sg,wrap64]
 have hsm:∀ x:Int,0≤x→x<1000000000000000000→wrap64 (s*x)=Ps.sg minus x:=by
  intro x h0 h1;rw [hs];unfold Ps.sg
  cases minus
  ·simp;unfold wrap64;omega
  ·simp
 have h42:=hS.known [42] (Or.inr ⟨by decide,by decide⟩) (by decide);have HS1:=zD hs1;have HSM:=zD hsm;clear hs hs1 hsm;obtain ⟨W,hW⟩:=nm (w.alloc (.cells #[.int .i64 0,.string ⟨#[]⟩] 99 (0,0)));have bW:=xA hW;have hK:=xE hW;have yW:=bW.size;have hle:=h.le;have hcm:=h.cm;have hlc:=h.lc;have hbb:=h.cells.2.2.2.2.2.2;unfold maxLen at hcm;by_cases hn:nx<I.L.length
 ·have ha:(nx:Int)<(I.L.length:Int):=by omega
  have e:I.pk nx=I.L[nx]:=(by unfold Inp.pk peekT;rw [dif_pos hn]);obtain ⟨t,ht⟩:=nm (I.L[nx]);rw [←ht] at e;have HT:=zD ht;clear ht;by_cases hkk:t.kind=2
  ·have hkb:(t.kind==2)=true:=beq_iff_eq.2 hkk
   rw [show Ps.term I minus nx=(Ps.name I nx).bind fun x m=>.ok (Ps.sg minus 1,x) m by unfold Ps.term;rw [if_neg (by rw [e,hkk];decide)]];rw [←HS1.out];go_enter Tryz.func86,Tryz.ntmps86;go_wp2_with fail;rw [←hW];clear hW;have hw0:=h.past bW;obtain ⟨rfl,hg,hT⟩:=hw0.toks (by omega);obtain ⟨t0,t1,t2,t3⟩:=hT nx hn;rw [←HT.out] at t0 t1 t2 t3;clear hT;obtain ⟨d0,d1,d2,d3,d4,d5,hd⟩:=hw0.cells;go_quiet (fail);have bq:Below W.heap.size W (W.drewN nq):=below_drewN (Below.refl _ _) nq;have h1:=hw0.past bq;have K1:=(bq.block _ (zC hK)).trans hK;have y1:=bq.size;generalize W.drewN nq=w1 at h1 K1 bq y1 ⊢;clear d0 d1 d2 d3 d4 d5 hd;go_wp2_with fail;refine (jZ h1 hS.kind (by omega)).mono ?_;rintro e2 w2 ⟨x2,rfl,g2,a2,v2⟩;have K2:=a2.keep K1 (zC K1) (by simp;omega);have A2:Aside [b] w.heap.size w w2:=((aside bW).trans (aside bq) yW).trans a2 (Nat.le_trans yW y1);have k0:=co K2 0;have k1:=co K2 1;have fk:=fun o=>fo K2 o;have hz:=zC K2;simp only [gT,gZ,gS] at k0 k1;go_wp2;have hwb:w.heap.size≠b:=(by omega);have hwg:w.heap.size≠g:=(by omega)
   cases hnm:Ps.name I nx with
   | ok v m=>
    rw [hnm] at g2;obtain rfl:=v2 v m hnm;have h2:Rr w2 b g cap _ I m 0 0 pt:=g2;exact bodyPost_ret (v:=.agg #[.int .i64 s,.string x2]) (by simp [results,Tryz.results86,go_sem,k0,k1]) rfl ⟨_,_,rfl,(h2.other (p:=⟨w.heap.size,0,none⟩) hwb hwg _).other (p:=⟨w.heap.size,1,none⟩) hwb hwg _,(A2.past (p:=⟨w.heap.size,0,none⟩) nR _).past (p:=⟨w.heap.size,1,none⟩) nR _,fun t m e=>by injection e⟩
   | err c a=>
    rw [hnm] at g2;obtain ⟨n2,p2,h2⟩:=g2;exact bodyPost_ret (v:=.agg #[.int .i64 s,.string x2]) (by simp [results,Tryz.results86,go_sem,k0,k1]) rfl ⟨_,_,rfl,⟨_,_,(h2.other (p:=⟨w.heap.size,0,none⟩) hwb hwg _).other (p:=⟨w.heap.size,1,none⟩) hwb hwg _⟩,(A2.past (p:=⟨w.heap.size,0,none⟩) nR _).past (p:=⟨w.heap.size,1,none⟩) nR _,fun t m e=>by cases e⟩
  ·have hkb:(t.kind==2)=false:=beq_eq_false_iff_ne.2 hkk
   by_cases hk3:t.kind=3
   ·have hof:ofR I 3 nx=.ok t (nx+1):=by unfold ofR;rw [if_pos ⟨hn,by rw [e];exact hk3⟩,e]
    have hnb:=hS.num nx;rw [e] at hnb;have hmul:=HSM.out t.n hnb.1 hnb.2;have eT:Ps.term I minus nx=if Ps.sees I [42] (nx+1)=true then (Ps.name I (nx+2)).bind fun x m=>.ok (Ps.sg minus t.n,x) m else .ok (Ps.sg minus t.n,⟨#[]⟩) (nx+1):=(by unfold Ps.term;rw [if_pos (by rw [e];exact hk3),e])
    rw [eT];obtain ⟨N,hN⟩:=nm (Ps.sg minus t.n);rw [←hN] at hmul ⊢;clear hN eT
    cases hx:Ps.sees I [42] (nx+1)
    ·rw [if_neg (by simp)]
     go_enter Tryz.func86,Tryz.ntmps86;go_wp2_with fail;rw [←hW];clear hW;have hw0:=h.past bW;obtain ⟨rfl,hg,hT⟩:=hw0.toks (by omega);obtain ⟨t0,t1,t2,t3⟩:=hT nx hn;rw [←HT.out] at t0 t1 t2 t3;clear hT;obtain ⟨d0,d1,d2,d3,d4,d5,hd⟩:=hw0.cells;go_quiet (fail);have bq:Below W.heap.size W (W.drewN nq):=below_drewN (Below.refl _ _) nq;have h1:=hw0.past bq;have K1:=(bq.block _ (zC hK)).trans hK;have y1:=bq.size;generalize W.drewN nq=w1 at h1 K1 bq y1 ⊢;clear d0 d1 d2 d3 d4 d5 hd;go_wp2_with fail;have hp:=zBi h1 hS.kind (by omega) 3;rw [hof] at hp;unfold tokV ofV at hp;simp only [] at hp;have hf3:=fun k p n x w=>zAu k p n x w;refine hp.mono ?_;rintro e2 w2 ⟨rfl,h2,a2⟩;have h2:Rr w2 b g cap _ I (nx+1) 0 0 pt:=h2;have K2:=a2.keep K1 (zC K1) (by simp;omega);have A2:Aside [b] w.heap.size w w2:=((aside bW).trans (aside bq) yW).trans a2 (Nat.le_trans yW y1);clear hof t0 t1 t2 t3;go_wp2_with fail;obtain ⟨w3,hw3⟩:=nm (w2.alloc (.cells #[.int .i64 N,.string ⟨#[]⟩] 99 (0,0)));have b3:=xA hw3;have J3:=xE hw3;rw [←hw3];clear hw3;have h3:=h2.past b3;refine (zU h3).mono ?_;rintro e2 w4 ⟨rfl,b4⟩;have z3:=b3.size;have h4:=h3.past b4;have K4:=(b4.block _ (by have:=zC K2;omega)).trans ((b3.block _ (zC K2)).trans K2);have J4:=(b4.block _ (zC J3)).trans J3;have A4:Aside [b] w.heap.size w w4:=(A2.trans (aside b3) A2.size).trans (aside b4) (Nat.le_trans A2.size z3);have y2:=A2.size;have z4:=b4.size;go_wp2_with fail;refine (xO h4 ⟨#[42]⟩).mono ?_;rintro e2 w5 ⟨rfl,b5⟩;rw [d42,h42,hx];have h5:=h4.past b5;have K5:=(b5.block _ (zC K4)).trans K4;have J5:=(b5.block _ (zC J4)).trans J4;have A5:=A4.trans (aside b5) A4.size;have k0:=co K5 0;have k1:=co K5 1;have fk:=fun o=>fo K5 o;have hz:=zC K5;simp only [gT,gZ,gS] at k0 k1;have j0:=co J5 0;have j1:=co J5 1;have fj:=fun o=>fo J5 o;have hzj:=zC J5;simp only [gT,gZ,gS] at j0 j1;go_wp2;have hwb:w.heap.size≠b:=(by omega);have hwg:w.heap.size≠g:=(by omega);exact bodyPost_ret (v:=.agg #[.int .i64 N,.string ⟨#[]⟩]) (by simp [results,Tryz.results86,go_sem,k0,k1]) rfl ⟨_,_,rfl,(h5.other (p:=⟨w.heap.size,0,none⟩) hwb hwg _).other (p:=⟨w.heap.size,1,none⟩) hwb hwg _,(A5.past (p:=⟨w.heap.size,0,none⟩) nR _).past (p:=⟨w.heap.size,1,none⟩) nR _,fun t m e=>by injection e⟩
    ·rw [if_pos rfl]
     have hn1:nx+1<I.L.length:=by
      have:=h42 (nx+1);rw [hx] at this;unfold seesW at this;simp at this;exact this.1.1
     go_enter Tryz.func86,Tryz.ntmps86;go_wp2_with fail;rw [←hW];clear hW;have hw0:=h.past bW;obtain ⟨rfl,hg,hT⟩:=hw0.toks (by omega);obtain ⟨t0,t1,t2,t3⟩:=hT nx hn;rw [←HT.out] at t0 t1 t2 t3;clear hT;obtain ⟨d0,d1,d2,d3,d4,d5,hd⟩:=hw0.cells;go_quiet (fail);have bq:Below W.heap.size W (W.drewN nq):=below_drewN (Below.refl _ _) nq;have h1:=hw0.past bq;have K1:=(bq.block _ (zC hK)).trans hK;have y1:=bq.size;generalize W.drewN nq=w1 at h1 K1 bq y1 ⊢;clear d0 d1 d2 d3 d4 d5 hd;go_wp2_with fail;have hp:=zBi h1 hS.kind (by omega) 3;rw [hof] at hp;unfold tokV ofV at hp;simp only [] at hp;have hf3:=fun k p n x w=>zAu k p n x w;refine hp.mono ?_;rintro e2 w2 ⟨rfl,h2,a2⟩;have h2:Rr w2 b g cap _ I (nx+1) 0 0 pt:=h2;have K2:=a2.keep K1 (zC K1) (by simp;omega);have A2:Aside [b] w.heap.size w w2:=((aside bW).trans (aside bq) yW).trans a2 (Nat.le_trans yW y1);clear hof t0 t1 t2 t3;go_wp2_with fail;obtain ⟨w3,hw3⟩:=nm (w2.alloc (.cells #[.int .i64 N,.string ⟨#[]⟩] 99 (0,0)));have b3:=xA hw3;have J3:=xE hw3;rw [←hw3];clear hw3;have h3:=h2.past b3;refine (zU h3).mono ?_;rintro e2 w4 ⟨rfl,b4⟩;have z3:=b3.size;have h4:=h3.past b4;have K4:=(b4.block _ (by have:=zC K2;omega)).trans ((b3.block _ (zC K2)).trans K2);have J4:=(b4.block _ (zC J3)).trans J3;have A4:Aside [b] w.heap.size w w4:=(A2.trans (aside b3) A2.size).trans (aside b4) (Nat.le_trans A2.size z3);have y2:=A2.size;have z4:=b4.size;go_wp2_with fail;refine (xO h4 ⟨#[42]⟩).mono ?_;rintro e2 w5 ⟨rfl,b5⟩;rw [d42,h42,hx];have h5:=h4.past b5;have K5:=(b5.block _ (zC K4)).trans K4;have J5:=(b5.block _ (zC J4)).trans J4;have A5:=A4.trans (aside b5) A4.size;have z5:=b5.size;have f5:=fun o=>h5.free o;obtain ⟨d0,d1,d2,d3,d4,d5,hd⟩:=h5.cells;rw [show ((nx+1:Nat):Int)=(nx:Int)+1 by omega] at d1;go_wp2_with fail;obtain ⟨w6,hw6⟩:=nm (w5.setCell ⟨b,1,none⟩ (.int .i64 ((nx:Int)+1+1)));have h6:Rr w6 b g cap (some ⟨g,0,none⟩) I (nx+2) 0 0 pt:=(by rw [hw6];have:=h5.move (nx+2) (by omega);rwa [show ((nx+2:Nat):Int)=(nx:Int)+1+1 by omega] at this);have K6:w6.heap[w.heap.size]?=some (.cells #[.int .i64 0,.string ⟨#[]⟩] 99 (0,0)):=(by rw [hw6,Below.heap_setCell _ _ _ _ (fun e=>by simp at e;omega)];exact K5);have J6:w6.heap[w2.heap.size]?=some (.cells #[.int .i64 N,.string ⟨#[]⟩] 99 (0,0)):=(by rw [hw6,Below.heap_setCell _ _ _ _ (fun e=>by simp at e;have:=a2.size;omega)];exact J5);have A6:Aside [b] w.heap.size w w6:=(by rw [hw6];exact A5.trans (Aside.setCell (by simp) _) nR);have z6:w6.heap.size=w5.heap.size:=(by rw [hw6];simp [World.setCell]);rw [←hw6];clear hw6 d0 d1 d2 d3 d4 d5 hd f5;refine (jZ h6 hS.kind (by omega)).mono ?_;rintro e2 w7 ⟨x7,rfl,g7,a7,v7⟩;have K7:=a7.keep K6 (zC K6) (by simp;omega);have J7:=a7.keep J6 (zC J6) (by simp;have:=a2.size;omega);have A7:=A6.trans a7 A6.size;have k0:=co K7 0;have k1:=co K7 1;have fk:=fun o=>fo K7 o;have hz:=zC K7;simp only [gT,gZ,gS] at k0 k1;have j0:=co J7 0;have j1:=co J7 1;have fj:=fun o=>fo J7 o;have hzj:=zC J7;simp only [gT,gZ,gS] at j0 j1;have hne2:w2.heap.size≠w.heap.size:=(by have:=a2.size;have:=zC K2;omega);go_wp2;have hwb:w.heap.size≠b:=(by omega);have hwg:w.heap.size≠g:=(by omega);have hjb:w2.heap.size≠b:=(by have:=a2.size;omega);have hjg:w2.heap.size≠g:=(by have:=a2.size;omega);have hjl:w.heap.size≤w2.heap.size:=A2.size
     cases hnm:Ps.name I (nx+2) with
     | ok v m=>
      rw [hnm] at g7;obtain rfl:=v7 v m hnm;have h7:Rr w7 b g cap _ I m 0 0 pt:=g7;exact bodyPost_ret (v:=.agg #[.int .i64 N,.string x7]) (by simp [results,Tryz.results86,go_sem,k0,k1,hne2,Ne.symm hne2]) rfl ⟨_,_,rfl,((h7.other (p:=⟨w2.heap.size,1,none⟩) hjb hjg _).other (p:=⟨w.heap.size,0,none⟩) hwb hwg _).other (p:=⟨w.heap.size,1,none⟩) hwb hwg _,((A7.past (p:=⟨w2.heap.size,1,none⟩) hjl _).past (p:=⟨w.heap.size,0,none⟩) nR _).past (p:=⟨w.heap.size,1,none⟩) nR _,fun t m e=>by injection e⟩
     | err c a=>
      rw [hnm] at g7;obtain ⟨n7,p7,h7⟩:=g7;exact bodyPost_ret (v:=.agg #[.int .i64 N,.string x7]) (by simp [results,Tryz.results86,go_sem,k0,k1,hne2,Ne.symm hne2]) rfl ⟨_,_,rfl,⟨_,_,((h7.other (p:=⟨w2.heap.size,1,none⟩) hjb hjg _).other (p:=⟨w.heap.size,0,none⟩) hwb hwg _).other (p:=⟨w.heap.size,1,none⟩) hwb hwg _⟩,((A7.past (p:=⟨w2.heap.size,1,none⟩) hjl _).past (p:=⟨w.heap.size,0,none⟩) nR _).past (p:=⟨w.heap.size,1,none⟩) nR _,fun t m e=>by cases e⟩
   ·have hof:ofR I 3 nx=.err (Ps.refC I nx) (I.pk nx).place:=by unfold ofR;rw [if_neg (fun q=>hk3 (by rw [e] at q;exact q.2))];rfl
    rw [show Ps.term I minus nx=.err (Ps.refC I nx) (I.pk nx).place by unfold Ps.term Ps.name;rw [if_neg (fun q=>hk3 (by rw [e] at q;exact q)),if_neg (fun q=>hkk (by rw [e] at q;exact q))];rfl];go_enter Tryz.func86,Tryz.ntmps86;go_wp2_with fail;rw [←hW];clear hW;have hw0:=h.past bW;obtain ⟨rfl,hg,hT⟩:=hw0.toks (by omega);obtain ⟨t0,t1,t2,t3⟩:=hT nx hn;rw [←HT.out] at t0 t1 t2 t3;clear hT;obtain ⟨d0,d1,d2,d3,d4,d5,hd⟩:=hw0.cells;go_quiet (fail);have bq:Below W.heap.size W (W.drewN nq):=below_drewN (Below.refl _ _) nq;have h1:=hw0.past bq;have K1:=(bq.block _ (zC hK)).trans hK;have y1:=bq.size;generalize W.drewN nq=w1 at h1 K1 bq y1 ⊢;clear d0 d1 d2 d3 d4 d5 hd;go_wp2_with fail;have hp:=zBi h1 hS.kind (by omega) 3;rw [hof] at hp;unfold ofV at hp;simp only [] at hp;rw [zCb] at hp;have hf3:=fun x w=>zBX x w;refine hp.mono ?_;rintro e2 w2 ⟨rfl,⟨n2,p2,h2⟩,a2⟩;have K2:=a2.keep K1 (zC K1) (by simp;omega);have A2:Aside [b] w.heap.size w w2:=((aside bW).trans (aside bq) yW).trans a2 (Nat.le_trans yW y1);have hcn:((Ps.refC I nx:Nat):Int)≠0:=by unfold Ps.refC;split<;>decide
    have HF:=zD hof;clear hof;obtain ⟨rc,hrc⟩:∃ rc:Int,rc=((Ps.refC I nx:Nat):Int):=⟨_,rfl⟩;rw [←hrc] at h2 hcn;have HRC:=zD hrc;have HCN:=zD hcn;clear hrc hcn;go_wp2_with fail;obtain ⟨w3,hw3⟩:=nm (w2.alloc (.cells #[.int .i64 0,.string ⟨#[]⟩] 99 (0,0)));have b3:=xA hw3;have J3:=xE hw3;rw [←hw3];clear hw3;have h3:=h2.past b3;refine (zU h3).mono ?_;rintro e2 w4 ⟨rfl,b4⟩;have z3:=b3.size;have h4:=h3.past b4;have K4:=(b4.block _ (by have:=zC K2;omega)).trans ((b3.block _ (zC K2)).trans K2);have J4:=(b4.block _ (zC J3)).trans J3;have A4:Aside [b] w.heap.size w w4:=(A2.trans (aside b3) A2.size).trans (aside b4) (Nat.le_trans A2.size z3);have y2:=A2.size;have z4:=b4.size;have k0:=co K4 0;have k1:=co K4 1;have fk:=fun o=>fo K4 o;have hz:=zC K4;simp only [gT,gZ,gS] at k0 k1;have j0:=co J4 0;have j1:=co J4 1;have fj:=fun o=>fo J4 o;have hzj:=zC J4;simp only [gT,gZ,gS] at j0 j1;have hcf:(rc==0)=false:=beq_eq_false_iff_ne.2 HCN.out;go_wp2;have hwb:w.heap.size≠b:=(by omega);have hwg:w.heap.size≠g:=(by omega);rw [HRC.out] at h4;exact bodyPost_ret (v:=.agg #[.int .i64 0,.string ⟨#[]⟩]) (by simp [results,Tryz.results86,go_sem,k0,k1]) rfl ⟨_,_,rfl,⟨_,_,(h4.other (p:=⟨w.heap.size,0,none⟩) hwb hwg _).other (p:=⟨w.heap.size,1,none⟩) hwb hwg _⟩,(A4.past (p:=⟨w.heap.size,0,none⟩) nR _).past (p:=⟨w.heap.size,1,none⟩) nR _,fun t m e=>by cases e⟩
 ·have ha:¬(nx:Int)<(I.L.length:Int):=by omega
  have he0:(I.pk nx).kind=0:=(by unfold Inp.pk peekT;rw [dif_neg hn]);have hof:ofR I 3 nx=.err (Ps.refC I nx) (I.pk nx).place:=(by unfold ofR;rw [if_neg (fun q=>hn q.1)];rfl);rw [show Ps.term I minus nx=.err (Ps.refC I nx) (I.pk nx).place by unfold Ps.term Ps.name;rw [if_neg (by rw [he0];decide),if_neg (by rw [he0];decide)];rfl];go_enter Tryz.func86,Tryz.ntmps86;go_wp2_with fail;rw [←hW];clear hW;have hw0:=h.past bW;obtain ⟨d0,d1,d2,d3,d4,d5,hd⟩:=hw0.cells;go_quiet (fail);have bq:Below W.heap.size W (W.drewN nq):=below_drewN (Below.refl _ _) nq;have h1:=hw0.past bq;have K1:=(bq.block _ (zC hK)).trans hK;have y1:=bq.size;generalize W.drewN nq=w1 at h1 K1 bq y1 ⊢;clear d0 d1 d2 d3 d4 d5 hd;go_wp2_with fail;have hp:=zBi h1 hS.kind (by omega) 3;rw [hof] at hp;unfold ofV at hp;simp only [] at hp;rw [zCb] at hp;have hf3:=fun x w=>zBX x w;refine hp.mono ?_;rintro e2 w2 ⟨rfl,⟨n2,p2,h2⟩,a2⟩;have K2:=a2.keep K1 (zC K1) (by simp;omega);have A2:Aside [b] w.heap.size w w2:=((aside bW).trans (aside bq) yW).trans a2 (Nat.le_trans yW y1);have hcn:((Ps.refC I nx:Nat):Int)≠0:=by unfold Ps.refC;split<;>decide
  have HF:=zD hof;clear hof;obtain ⟨rc,hrc⟩:∃ rc:Int,rc=((Ps.refC I nx:Nat):Int):=⟨_,rfl⟩;rw [←hrc] at h2 hcn;have HRC:=zD hrc;have HCN:=zD hcn;clear hrc hcn;go_wp2_with fail;obtain ⟨w3,hw3⟩:=nm (w2.alloc (.cells #[.int .i64 0,.string ⟨#[]⟩] 99 (0,0)));have b3:=xA hw3;have J3:=xE hw3;rw [←hw3];clear hw3;have h3:=h2.past b3;refine (zU h3).mono ?_;rintro e2 w4 ⟨rfl,b4⟩;have z3:=b3.size;have h4:=h3.past b4;have K4:=(b4.block _ (by have:=zC K2;omega)).trans ((b3.block _ (zC K2)).trans K2);have J4:=(b4.block _ (zC J3)).trans J3;have A4:Aside [b] w.heap.size w w4:=(A2.trans (aside b3) A2.size).trans (aside b4) (Nat.le_trans A2.size z3);have y2:=A2.size;have z4:=b4.size;have k0:=co K4 0;have k1:=co K4 1;have fk:=fun o=>fo K4 o;have hz:=zC K4;simp only [gT,gZ,gS] at k0 k1;have j0:=co J4 0;have j1:=co J4 1;have fj:=fun o=>fo J4 o;have hzj:=zC J4;simp only [gT,gZ,gS] at j0 j1;have hcf:(rc==0)=false:=beq_eq_false_iff_ne.2 HCN.out;go_wp2;have hwb:w.heap.size≠b:=(by omega);have hwg:w.heap.size≠g:=(by omega);rw [HRC.out] at h4;exact bodyPost_ret (v:=.agg #[.int .i64 0,.string ⟨#[]⟩]) (by simp [results,Tryz.results86,go_sem,k0,k1]) rfl ⟨_,_,rfl,⟨_,_,(h4.other (p:=⟨w.heap.size,0,none⟩) hwb hwg _).other (p:=⟨w.heap.size,1,none⟩) hwb hwg _⟩,(A4.past (p:=⟨w.heap.size,0,none⟩) nR _).past (p:=⟨w.heap.size,1,none⟩) nR _,fun t m e=>by cases e⟩
theorem HSizes.at {ok:Nat→Prop} {w:World} {v:Value} {l:List (List Tm)} (h:HSizes ok w v l) :
  ∃ ao cap,v=.slice ao l.length cap∧l.length≤cap∧cap≤maxLen∧∀ i (h:i<l.length),∃ b o au nu cu,ao=some ⟨b,o,none⟩∧b<w.heap.size∧w.cell? ⟨b,o+i,none⟩=some (.slice au nu cu)∧HTerms ok w (.slice au nu cu) l[i]:=by
 obtain ⟨C,⟨ao,cap,hv,h1,h2,h3⟩,hC⟩:=h;refine ⟨ao,cap,hv,h1,h2,fun i hi=>?_⟩;obtain ⟨b,o,ha,hob,hb,hc⟩:=h3 (by omega);have:=(hc i hi).2 0 (by decide);obtain ⟨u,hu,ht⟩:=hC i hi;rw [hu] at this;have ht0:=ht;obtain ⟨_,⟨au,cu,rfl,_⟩,_⟩:=ht0;exact ⟨b,o,au,_,cu,ha,hb,by simpa using this,ht⟩
theorem HTerms.under {ok:Nat→Prop} {w w':World} {v:Value} {l:List Tm} (h:HTerms ok w v l) (a:Below w.heap.size w w'):HTerms ok w' v l:=h.keep a.size fun i _ hl=>a.block i hl
theorem HSizes.under {ok:Nat→Prop} {w w':World} {v:Value} {l:List (List Tm)} (h:HSizes ok w v l) (a:Below w.heap.size w w'):HSizes ok w' v l:=h.keep a.size fun i _ hl=>a.block i hl
theorem HNames.under {ok:Nat→Prop} {w w':World} {v:Value} {l:List ByteArray} (h:HNames ok w v l) (a:Below w.heap.size w w'):HNames ok w' v l:=h.keep a.size fun i _ hl=>a.block i hl
theorem vG {ok ok':Nat→Prop} {w:World} {v u:Value} {l r:List ByteArray} (hl:HNames ok w v l) (hr:HNames ok' w u r) :
  Calls Tryz.prog 19 #[v,u] w fun e w'=>e=.returned (.bool (eqL seq l r))∧∃ m,w'=w.drewN m:=by
 obtain ⟨ao,cap,rfl,hc1,hc2,hat⟩:=hl.at;obtain ⟨ao',cap',rfl,hd1,hd2,hat'⟩:=hr.at;unfold maxLen at hc2 hd2;obtain ⟨R,hR⟩:=nm (eqL seq l r);rw [←hR];have HR:=zD hR;clear hR hl hr;obtain ⟨n,hn⟩:=nm (l.length);obtain ⟨m,hm⟩:=nm (r.length);rw [←hn] at hc1 ⊢;rw [←hm] at hd1 ⊢;have HN:=zD hn;have HM:=zD hm;by_cases hlen:n=m
 ·subst hlen
  have hq:((n:Int) != (n:Int))=false:=(by simp);clear hn hm;go_enter Tryz.func19,Tryz.ntmps19;go_wp2;go_loopg [5] n (fun k v wr=>∃ i d,i≤n∧k=n-i∧v=.int .i64 (i:Nat)∧Hid (∀ j (h:j<l.length) (h':j<r.length),j<i→seq l[j] r[j]=true)∧wr=w.drewN d)
  case atStart=>exact ⟨0,0,Nat.zero_le _,rfl,rfl,fun j _ _ h=>absurd h (Nat.not_lt_zero _),rfl⟩
  case round=>
   obtain ⟨i,d,hi,rfl,rfl,H,hW⟩:=hrel;have HW:=zD hW;clear hW;by_cases hlt:i<n
   ·have hil:i<l.length:=by have:=HN.out;omega
    have hir:i<r.length:=(by have:=HM.out;omega);obtain ⟨b,o,rfl,hb,hc⟩:=hat i hil;obtain ⟨b',o',rfl,hb',hc'⟩:=hat' i hir;have e1:wr.cell? ⟨b,o+i,none⟩=some (.string l[i]):=(by rw [HW.out];exact hc);have e2:wr.cell? ⟨b',o'+i,none⟩=some (.string r[i]):=(by rw [HW.out];exact hc');obtain ⟨x,hx⟩:=nm (l[i]);obtain ⟨y,hy⟩:=nm (r[i]);rw [←hx] at e1;rw [←hy] at e2;have HX:=zD hx;have HY:=zD hy;clear hc hc' hx hy;clear hat hat'
    cases h0:(x.toList==y.toList)
    ·
     have hbad:seq l[i] r[i]=false:=(by rw [←HX.out,←HY.out];exact h0);have HBAD:=zD hbad;clear hbad
     go_wp2_with fail;go_quiet (fail);go_wp2;go_ret;refine ⟨zV ?_,_,by rw [HW.out];exact World.drewN_drewN _ _ _⟩;rw [HR.out];exact (qV i hil hir HBAD.out).symm
    ·
     have hall:seq l[i] r[i]=true:=(by rw [←HX.out,←HY.out];exact h0);have HALL:=zD hall;clear hall;go_wp2_with fail;go_quiet (fail);go_wp2;go_roundg (n-(i+1))
     case measure=>omega
     case rel=>
      refine ⟨i+1,_,by omega,rfl,by go_num,fun j hj hj' hji=>?_,by rw [HW.out];exact World.drewN_drewN _ _ _⟩;by_cases e:j=i
      ·subst e
       exact HALL.out
      ·exact H.out j hj hj' (by omega)
   ·have hie:i=n:=by omega
    subst hie;clear hat hat';go_wp2;go_ret;refine ⟨zV ?_,_,HW.out⟩;rw [HR.out];exact (jI (by rw [←HN.out,←HM.out]) (fun j hj hj'=>H.out j hj hj' (by rw [HN.out];exact hj))).symm
 ·have hq:((n:Int) != (m:Int))=true:=by simp;omega
  clear hat hat' hn hm;go_enter Tryz.func19,Tryz.ntmps19;go_wp2;go_ret;refine ⟨zV ?_,0,rfl⟩;rw [HR.out];exact (zAq (by rw [←HN.out,←HM.out];exact hlen)).symm
theorem zCL {ok ok':Nat→Prop} {w:World} {v u:Value} {l r:List Tm} (hl:HTerms ok w v l) (hr:HTerms ok' w u r) :
  Calls Tryz.prog 50 #[v,u] w fun e w'=>e=.returned (.bool (eqL teq l r))∧∃ m,w'=w.drewN m:=by
 obtain ⟨ao,cap,rfl,hc1,hc2,hat⟩:=hl.at;obtain ⟨ao',cap',rfl,hd1,hd2,hat'⟩:=hr.at;unfold maxLen at hc2 hd2;obtain ⟨R,hR⟩:=nm (eqL teq l r);rw [←hR];have HR:=zD hR;clear hR hl hr;obtain ⟨n,hn⟩:=nm (l.length);obtain ⟨m,hm⟩:=nm (r.length);rw [←hn] at hc1 ⊢;rw [←hm] at hd1 ⊢;have HN:=zD hn;have HM:=zD hm;by_cases hlen:n=m
 ·subst hlen
  have hq:((n:Int) != (n:Int))=false:=(by simp);clear hn hm;go_enter Tryz.func50,Tryz.ntmps50;go_wp2;go_loopg [5] n (fun k v wr=>∃ i d,i≤n∧k=n-i∧v=.int .i64 (i:Nat)∧Hid (∀ j (h:j<l.length) (h':j<r.length),j<i→teq l[j] r[j]=true)∧wr=w.drewN d)
  case atStart=>exact ⟨0,0,Nat.zero_le _,rfl,rfl,fun j _ _ h=>absurd h (Nat.not_lt_zero _),rfl⟩
  case round=>
   obtain ⟨i,d,hi,rfl,rfl,H,hW⟩:=hrel;have HW:=zD hW;clear hW;by_cases hlt:i<n
   ·have hil:i<l.length:=by have:=HN.out;omega
    have hir:i<r.length:=(by have:=HM.out;omega);obtain ⟨b,o,rfl,hb,hc,hd⟩:=hat i hil;obtain ⟨b',o',rfl,hb',hc',hd'⟩:=hat' i hir;have e1:wr.cell? ⟨b,o+i*2,none⟩=some (.int .i64 (l[i]).1):=(by rw [HW.out];exact hc);have e2:wr.cell? ⟨b',o'+i*2,none⟩=some (.int .i64 (r[i]).1):=(by rw [HW.out];exact hc');have e3:wr.cell? ⟨b,o+i*2+1,none⟩=some (.string (l[i]).2):=(by rw [HW.out];exact hd);have e4:wr.cell? ⟨b',o'+i*2+1,none⟩=some (.string (r[i]).2):=(by rw [HW.out];exact hd');obtain ⟨x,hx⟩:=nm (l[i]);obtain ⟨y,hy⟩:=nm (r[i]);rw [←hx] at e1 e3;rw [←hy] at e2 e4;have HX:=zD hx;have HY:=zD hy;clear hc hc' hd hd' hx hy;obtain ⟨x1,x2⟩:=x;obtain ⟨y1,y2⟩:=y;have hne:=fun w=>neqTerm x1 y1 x2 y2 w;clear hat hat'
    cases h0:teq (x1,x2) (y1,y2)
    ·
     have hbad:teq l[i] r[i]=false:=(by rw [←HX.out,←HY.out];exact h0);have HBAD:=zD hbad;clear hbad;rw [h0] at hne;go_wp2_with fail;go_quiet (fail);go_wp2;go_ret;refine ⟨zV ?_,_,by rw [HW.out];exact World.drewN_drewN _ _ _⟩;rw [HR.out];exact (qV i hil hir HBAD.out).symm
    ·
     rw [h0] at hne;have hall:teq l[i] r[i]=true:=(by rw [←HX.out,←HY.out];exact h0);have HALL:=zD hall;clear hall;go_wp2_with fail;go_quiet (fail);go_wp2;go_roundg (n-(i+1))
     case measure=>omega
     case rel=>
      refine ⟨i+1,_,by omega,rfl,by go_num,fun j hj hj' hji=>?_,by rw [HW.out];exact World.drewN_drewN _ _ _⟩;by_cases e:j=i
      ·subst e
       exact HALL.out
      ·exact H.out j hj hj' (by omega)
   ·have hie:i=n:=by omega
    subst hie;clear hat hat';go_wp2;go_ret;refine ⟨zV ?_,_,HW.out⟩;rw [HR.out];exact (jI (by rw [←HN.out,←HM.out]) (fun j hj hj'=>H.out j hj hj' (by rw [HN.out];exact hj))).symm
 ·have hq:((n:Int) != (m:Int))=true:=by simp;omega
  clear hat hat' hn hm;go_enter Tryz.func50,Tryz.ntmps50;go_wp2;go_ret;refine ⟨zV ?_,0,rfl⟩;rw [HR.out];exact (zAq (by rw [←HN.out,←HM.out];exact hlen)).symm
theorem zBN {w wr:World} {a:Nat} (h:wr=w.drewN a) (b:Nat):Below w.heap.size w (wr.drewN b):=by rw [h];exact ⟨rfl,rfl,rfl,Nat.le_refl _,fun _ _=>rfl⟩
theorem jD {ok ok':Nat→Prop} {w:World} {v u:Value} {l r:List (List Tm)} (hl:HSizes ok w v l) (hr:HSizes ok' w u r) :
  Calls Tryz.prog 21 #[v,u] w fun e w'=>e=.returned (.bool (eqL (eqL teq) l r))∧∃ m,w'=w.drewN m:=by
 obtain ⟨ao,cap,rfl,hc1,hc2,hat⟩:=hl.at;obtain ⟨ao',cap',rfl,hd1,hd2,hat'⟩:=hr.at;unfold maxLen at hc2 hd2;obtain ⟨R,hR⟩:=nm (eqL (eqL teq) l r);rw [←hR];have HR:=zD hR;clear hR hl hr;obtain ⟨n,hn⟩:=nm (l.length);obtain ⟨m,hm⟩:=nm (r.length);rw [←hn] at hc1 ⊢;rw [←hm] at hd1 ⊢;have HN:=zD hn;have HM:=zD hm;by_cases hlen:n=m
 ·subst hlen
  have hq:((n:Int) != (n:Int))=false:=(by simp);clear hn hm;go_enter Tryz.func21,Tryz.ntmps21;go_wp2;go_loopg [5] n (fun k v wr=>∃ i d,i≤n∧k=n-i∧v=.int .i64 (i:Nat)∧Hid (∀ j (h:j<l.length) (h':j<r.length),j<i→(eqL teq) l[j] r[j]=true)∧wr=w.drewN d)
  case atStart=>exact ⟨0,0,Nat.zero_le _,rfl,rfl,fun j _ _ h=>absurd h (Nat.not_lt_zero _),rfl⟩
  case round=>
   obtain ⟨i,d,hi,rfl,rfl,H,hW⟩:=hrel;have HW:=zD hW;clear hW;by_cases hlt:i<n
   ·have hil:i<l.length:=by have:=HN.out;omega
    have hir:i<r.length:=(by have:=HM.out;omega);obtain ⟨b,o,au,nu,cu,rfl,hb,hc,ht⟩:=hat i hil;obtain ⟨b',o',au',nu',cu',rfl,hb',hc',ht'⟩:=hat' i hir;have e1:wr.cell? ⟨b,o+i,none⟩=some (.slice au nu cu):=(by rw [HW.out];exact hc);have e2:wr.cell? ⟨b',o'+i,none⟩=some (.slice au' nu' cu'):=(by rw [HW.out];exact hc');have hcall:=fun q=>zCL (w:=wr.drewN q) (ht.under (zBN HW.out q)) (ht'.under (zBN HW.out q));clear hc hc' ht ht';clear hat hat'
    cases h0:eqL teq l[i] r[i]
    ·
     have hbad:(eqL teq) l[i] r[i]=false:=(by exact h0);have HBAD:=zD hbad;clear hbad;rw [h0] at hcall;go_wp2_with fail;go_quiet (first | (go_at_call 50;refine Calls.quiet_of (hcall _)));go_wp2;go_ret;refine ⟨zV ?_,_,by rw [HW.out];exact World.drewN_drewN _ _ _⟩;rw [HR.out];exact (qV i hil hir HBAD.out).symm
    ·
     rw [h0] at hcall;have hall:(eqL teq) l[i] r[i]=true:=(by exact h0);have HALL:=zD hall;clear hall;go_wp2_with fail;go_quiet (first | (go_at_call 50;refine Calls.quiet_of (hcall _)));go_wp2;go_roundg (n-(i+1))
     case measure=>omega
     case rel=>
      refine ⟨i+1,_,by omega,rfl,by go_num,fun j hj hj' hji=>?_,by rw [HW.out];exact World.drewN_drewN _ _ _⟩;by_cases e:j=i
      ·subst e
       exact HALL.out
      ·exact H.out j hj hj' (by omega)
   ·have hie:i=n:=by omega
    subst hie;clear hat hat';go_wp2;go_ret;refine ⟨zV ?_,_,HW.out⟩;rw [HR.out];exact (jI (by rw [←HN.out,←HM.out]) (fun j hj hj'=>H.out j hj hj' (by rw [HN.out];exact hj))).symm
 ·have hq:((n:Int) != (m:Int))=true:=by simp;omega
  clear hat hat' hn hm;go_enter Tryz.func21,Tryz.ntmps21;go_wp2;go_ret;refine ⟨zV ?_,0,rfl⟩;rw [HR.out];exact (zAq (by rw [←HN.out,←HM.out];exact hlen)).symm
def deq (a b:De):Bool:=seq a.name b.name&&(a.elem==b.elem)&&eqL teq a.n b.n
theorem zAh (a:De):deq a a=true:=by simp [deq,jN,xJ a.n (fun x _=>teq_refl x)]
def HDes (ok:Nat→Prop) (w:World) (v:Value) (l:List De):Prop:=∃ C,Sl ok 3 w v l.length C∧∀ i (h:i<l.length),∃ u,C i=[.string (l[i]).name,.int .u8 (l[i]).elem,u]∧HTerms ok w u (l[i]).n
theorem HDes.keep {ok:Nat→Prop} {w w':World} {v:Value} {l:List De} (h:HDes ok w v l) (hs:w.heap.size≤w'.heap.size) (hk:∀ i,ok i→i<w.heap.size→w'.heap[i]?=w.heap[i]?):HDes ok w' v l:=by
 obtain ⟨C,h1,h2⟩:=h;refine ⟨C,h1.keep hs hk,fun i hi=>?_⟩;obtain ⟨u,e,ht⟩:=h2 i hi;exact ⟨u,e,ht.keep hs hk⟩
theorem HDes.under {ok:Nat→Prop} {w w':World} {v:Value} {l:List De} (h:HDes ok w v l) (a:Below w.heap.size w w'):HDes ok w' v l:=h.keep a.size fun i _ hl=>a.block i hl
theorem HTerms.form {ok:Nat→Prop} {w:World} {v:Value} {l:List Tm} (h:HTerms ok w v l):∃ a n c,v=.slice a n c:=by
 obtain ⟨_,⟨au,cu,rfl,_⟩,_⟩:=h;exact ⟨_,_,_,rfl⟩
theorem HDes.at {ok:Nat→Prop} {w:World} {v:Value} {l:List De} (h:HDes ok w v l) :
  ∃ ao cap,v=.slice ao l.length cap∧l.length≤cap∧cap≤maxLen∧∀ i (h:i<l.length),∃ b o au nu cu,ao=some ⟨b,o,none⟩∧b<w.heap.size∧w.cell? ⟨b,o+i*3,none⟩=some (.string (l[i]).name)∧w.cell? ⟨b,o+i*3+1,none⟩=some (.int .u8 (l[i]).elem)∧w.cell? ⟨b,o+i*3+2,none⟩=some (.slice au nu cu)∧HTerms ok w (.slice au nu cu) (l[i]).n:=by
 obtain ⟨C,⟨ao,cap,hv,h1,h2,h3⟩,hC⟩:=h;refine ⟨ao,cap,hv,h1,h2,fun i hi=>?_⟩;obtain ⟨b,o,ha,hob,hb,hc⟩:=h3 (by omega);obtain ⟨u,hu,ht⟩:=hC i hi;have t0:=(hc i hi).2 0 (by decide);have t1:=(hc i hi).2 1 (by decide);have t2:=(hc i hi).2 2 (by decide);rw [hu] at t0 t1 t2;obtain ⟨au,nu,cu,rfl⟩:=ht.form;exact ⟨b,o,au,nu,cu,ha,hb,by simpa using t0,by simpa using t1,by simpa using t2,ht⟩
theorem zCh {ok ok':Nat→Prop} {w:World} {a b:De} {au au':Option Addr} {nu cu nu' cu':Nat} (ha:HTerms ok w (.slice au nu cu) a.n) (hb:HTerms ok' w (.slice au' nu' cu') b.n) :
  Calls Tryz.prog 53 #[.agg #[.string a.name,.int .u8 a.elem,.slice au nu cu],.agg #[.string b.name,.int .u8 b.elem,.slice au' nu' cu']] w fun e w'=>e=.returned (.bool (deq a b))∧Below w.heap.size w w':=by
 obtain ⟨R,hR⟩:=nm (deq a b);rw [←hR];unfold deq at hR;have hB:∀ o o',Below w.heap.size w ((w.alloc o).alloc o'):=fun o o'=>((Below.refl _ w).alloc nR o).alloc (by simp) o';have hcall:=fun o o'=>sameSize_any (ha.under (hB o o')) (hb.under (hB o o'));obtain ⟨an,ae,al⟩:=a;obtain ⟨bn,be,bl⟩:=b;simp only at hR hcall ⊢;unfold seq at hR
 cases h0:(an.toList==bn.toList)
 ·have:R=false:=by rw [hR,h0];rfl
  subst this;clear hR hcall;go_enter Tryz.func53,Tryz.ntmps53;go_wp2;go_ret;exact ⟨rfl,hB _ _⟩
 ·cases h1:(ae==be)
  ·have:R=false:=by rw [hR,h0,h1];rfl
   subst this;clear hR hcall;go_enter Tryz.func53,Tryz.ntmps53;go_wp2;go_ret;exact ⟨rfl,hB _ _⟩
  ·have h3:R=eqL teq al bl:=by rw [hR,h0,h1];rfl
   subst h3;clear hR;go_enter Tryz.func53,Tryz.ntmps53;go_wp2_with fail;refine (hcall _ _).mono ?_;rintro e w1 ⟨rfl,b1⟩;have hb1:=(hB _ _).trans (b1.mono (by simp;omega));clear hcall;go_wp2;go_ret;exact ⟨rfl,hb1⟩
theorem equalDecls_any {ok ok':Nat→Prop} {w:World} {v u:Value} {l r:List De} (hl:HDes ok w v l) (hr:HDes ok' w u r) :
  Calls Tryz.prog 52 #[v,u,.func (.func 53) #[] #[]] w fun e w'=>e=.returned (.bool (eqL deq l r))∧Below w.heap.size w w':=by
 obtain ⟨ao,cap,rfl,hc1,hc2,hat⟩:=hl.at;obtain ⟨ao',cap',rfl,hd1,hd2,hat'⟩:=hr.at;unfold maxLen at hc2 hd2;obtain ⟨R,hR⟩:=nm (eqL deq l r);rw [←hR];have HR:=zD hR;clear hR hl hr;obtain ⟨n,hn⟩:=nm (l.length);obtain ⟨m,hm⟩:=nm (r.length);rw [←hn] at hc1 ⊢;rw [←hm] at hd1 ⊢;have HN:=zD hn;have HM:=zD hm;by_cases hlen:n=m
 ·subst hlen
  have hq:((n:Int) != (n:Int))=false:=(by simp);clear hn hm;go_enter Tryz.func52,Tryz.ntmps52;go_wp2;go_loopg [17] n (fun k v wr=>∃ i,i≤n∧k=n-i∧v=.int .i64 (i:Nat)∧Hid (∀ j (h:j<l.length) (h':j<r.length),j<i→deq l[j] r[j]=true)∧Below w.heap.size w wr)
  case atStart=>exact ⟨0,Nat.zero_le _,rfl,rfl,fun j _ _ h=>absurd h (Nat.not_lt_zero _),Below.refl _ _⟩
  case round=>
   obtain ⟨i,hi,rfl,rfl,H,hbr⟩:=hrel;by_cases hlt:i<n
   ·have hil:i<l.length:=by have:=HN.out;omega
    have hir:i<r.length:=(by have:=HM.out;omega);obtain ⟨b,o,au,nu,cu,rfl,hb,hc,hd,he,ht⟩:=hat i hil;obtain ⟨b',o',au',nu',cu',rfl,hb',hc',hd',he',ht'⟩:=hat' i hir;have e1:=(hbr.cell (p:=⟨b,o+i*3,none⟩) hb).trans hc;have e2:=(hbr.cell (p:=⟨b',o'+i*3,none⟩) hb').trans hc';have e3:=(hbr.cell (p:=⟨b,o+i*3+1,none⟩) hb).trans hd;have e4:=(hbr.cell (p:=⟨b',o'+i*3+1,none⟩) hb').trans hd';have e5:=(hbr.cell (p:=⟨b,o+i*3+2,none⟩) hb).trans he;have e6:=(hbr.cell (p:=⟨b',o'+i*3+2,none⟩) hb').trans he';have zb:b<wr.heap.size:=Nat.lt_of_lt_of_le hb hbr.size;have zb':b'<wr.heap.size:=Nat.lt_of_lt_of_le hb' hbr.size;have f2:=fun o=>((Below.refl _ wr).alloc nR o).cell (p:=⟨b',o'+i*3,none⟩) zb' |>.trans e2
    have f4:=fun o=>((Below.refl _ wr).alloc nR o).cell (p:=⟨b',o'+i*3+1,none⟩) zb' |>.trans e4
    have f6:=fun o=>((Below.refl _ wr).alloc nR o).cell (p:=⟨b',o'+i*3+2,none⟩) zb' |>.trans e6
    have hB:∀ o o',Below wr.heap.size wr ((wr.alloc o).alloc o'):=fun o o'=>((Below.refl _ wr).alloc nR o).alloc (by simp) o';have g1:=ht.under hbr;have g2:=ht'.under hbr;clear hc hc' hd hd' he he' ht ht';clear hat hat'
    cases hxy:deq l[i] r[i]
    ·
     go_wp2_with fail;refine (zCh (g1.under (hB _ _)) (g2.under (hB _ _))).mono ?_;rintro e w1 ⟨rfl,b1⟩;rw [hxy]
     all_goals
      have hb1:=hbr.trans (((hB _ _).trans (b1.mono (by simp;omega))).mono hbr.size);go_wp2;go_ret;refine ⟨zV ?_,hb1⟩;rw [HR.out];exact (qV i hil hir hxy).symm
    ·
     go_wp2_with fail;refine (zCh (g1.under (hB _ _)) (g2.under (hB _ _))).mono ?_;rintro e w1 ⟨rfl,b1⟩;rw [hxy]
     all_goals
      have hb1:=hbr.trans (((hB _ _).trans (b1.mono (by simp;omega))).mono hbr.size);go_wp2;go_roundg (n-(i+1))
      case measure=>omega
      case rel=>
       refine ⟨i+1,by omega,rfl,by go_num,fun j hj hj' hji=>?_,hb1⟩;by_cases e:j=i
       ·subst e
        exact hxy
       ·exact H.out j hj hj' (by omega)
   ·have hie:i=n:=by omega
    subst hie;clear hat hat';go_wp2;go_ret;refine ⟨zV ?_,hbr⟩;rw [HR.out];exact (jI (by rw [←HN.out,←HM.out]) (fun j hj hj'=>H.out j hj hj' (by rw [HN.out];exact hj))).symm
 ·have hq:((n:Int) != (m:Int))=true:=by simp;omega
  clear hat hat' hn hm;go_enter Tryz.func52,Tryz.ntmps52;go_wp2;go_ret;refine ⟨zV ?_,Below.refl _ _⟩;rw [HR.out];exact (zAq (by rw [←HN.out,←HM.out];exact hlen)).symm
theorem vF {ok ok':Nat→Prop} {w:World} {v u:Value} {l r:List De} (hl:HDes ok w v l) (hr:HDes ok' w u r) :
  Calls Tryz.prog 20 #[v,u] w fun e w'=>e=.returned (.bool (eqL deq l r))∧∃ m,w'=w.drewN m:=by
 obtain ⟨ao,cap,rfl,hc1,hc2,hat⟩:=hl.at;obtain ⟨ao',cap',rfl,hd1,hd2,hat'⟩:=hr.at;unfold maxLen at hc2 hd2;obtain ⟨R,hR⟩:=nm (eqL deq l r);rw [←hR];have HR:=zD hR;clear hR hl hr;obtain ⟨n,hn⟩:=nm (l.length);obtain ⟨m,hm⟩:=nm (r.length);rw [←hn] at hc1 ⊢;rw [←hm] at hd1 ⊢;have HN:=zD hn;have HM:=zD hm;by_cases hlen:n=m
 ·subst hlen
  have hq:((n:Int) != (n:Int))=false:=(by simp);clear hn hm;go_enter Tryz.func20,Tryz.ntmps20;go_wp2;go_loopg [5] n (fun k v wr=>∃ i d,i≤n∧k=n-i∧v=.int .i64 (i:Nat)∧Hid (∀ j (h:j<l.length) (h':j<r.length),j<i→deq l[j] r[j]=true)∧wr=w.drewN d)
  case atStart=>exact ⟨0,0,Nat.zero_le _,rfl,rfl,fun j _ _ h=>absurd h (Nat.not_lt_zero _),rfl⟩
  case round=>
   obtain ⟨i,d,hi,rfl,rfl,H,hW⟩:=hrel;have HW:=zD hW;clear hW;by_cases hlt:i<n
   ·have hil:i<l.length:=by have:=HN.out;omega
    have hir:i<r.length:=(by have:=HM.out;omega);obtain ⟨b,o,au,nu,cu,rfl,hb,hc,hd,he,ht⟩:=hat i hil;obtain ⟨b',o',au',nu',cu',rfl,hb',hc',hd',he',ht'⟩:=hat' i hir;obtain ⟨x,hx⟩:=nm (l[i]);obtain ⟨y,hy⟩:=nm (r[i]);rw [←hx] at hc hd ht;rw [←hy] at hc' hd' ht';have e1:wr.cell? ⟨b,o+i*3,none⟩=some (.string x.name):=(by rw [HW.out];exact hc);have e2:wr.cell? ⟨b',o'+i*3,none⟩=some (.string y.name):=(by rw [HW.out];exact hc');have e3:wr.cell? ⟨b,o+i*3+1,none⟩=some (.int .u8 x.elem):=(by rw [HW.out];exact hd);have e4:wr.cell? ⟨b',o'+i*3+1,none⟩=some (.int .u8 y.elem):=(by rw [HW.out];exact hd');have e5:wr.cell? ⟨b,o+i*3+2,none⟩=some (.slice au nu cu):=(by rw [HW.out];exact he);have e6:wr.cell? ⟨b',o'+i*3+2,none⟩=some (.slice au' nu' cu'):=(by rw [HW.out];exact he');have hcall:=fun q=>zCL (w:=wr.drewN q) (ht.under (zBN HW.out q)) (ht'.under (zBN HW.out q));have HX:=zD hx;have HY:=zD hy;clear hc hc' hd hd' he he' ht ht' hx hy;obtain ⟨xn,xe,xl⟩:=x;obtain ⟨yn,ye,yl⟩:=y;simp only at e1 e2 e3 e4 hcall;clear hat hat'
    cases h0:(xn.toList==yn.toList)
    ·
     have hbad:deq l[i] r[i]=false:=(by rw [←HX.out,←HY.out];simp [deq,seq,h0]);have HBAD:=zD hbad;clear hbad;clear hcall;go_wp2_with fail;go_quiet (first | (go_at_call 50;refine Calls.quiet_of (hcall _)));go_wp2;go_ret;refine ⟨zV ?_,_,by rw [HW.out];exact World.drewN_drewN _ _ _⟩;rw [HR.out];exact (qV i hil hir HBAD.out).symm
    ·
     cases h1:(xe==ye)
     ·
      have hbad:deq l[i] r[i]=false:=(by rw [←HX.out,←HY.out];simp [deq,seq,h0,h1]);have HBAD:=zD hbad;clear hbad;clear hcall;have k1:(xe != ye)=true:=(by rw [bne,h1];rfl);go_wp2_with fail;go_quiet (first | (go_at_call 50;refine Calls.quiet_of (hcall _)));go_wp2;go_ret;refine ⟨zV ?_,_,by rw [HW.out];exact World.drewN_drewN _ _ _⟩;rw [HR.out];exact (qV i hil hir HBAD.out).symm
     ·
      have k1:(xe != ye)=false:=(by rw [bne,h1];rfl)
      cases h2:eqL teq xl yl
      ·
       have hbad:deq l[i] r[i]=false:=(by rw [←HX.out,←HY.out];simp [deq,seq,h0,h1,h2]);have HBAD:=zD hbad;clear hbad;rw [h2] at hcall;go_wp2_with fail;go_quiet (first | (go_at_call 50;refine Calls.quiet_of (hcall _)));go_wp2;go_ret;refine ⟨zV ?_,_,by rw [HW.out];exact World.drewN_drewN _ _ _⟩;rw [HR.out];exact (qV i hil hir HBAD.out).symm
      ·
       rw [h2] at hcall;have hall:deq l[i] r[i]=true:=(by rw [←HX.out,←HY.out];simp [deq,seq,h0,h1,h2]);have HALL:=zD hall;clear hall;go_wp2_with fail;go_quiet (first | (go_at_call 50;refine Calls.quiet_of (hcall _)));go_wp2;go_roundg (n-(i+1))
       case measure=>omega
       case rel=>
        refine ⟨i+1,_,by omega,rfl,by go_num,fun j hj hj' hji=>?_,by rw [HW.out];exact World.drewN_drewN _ _ _⟩;by_cases e:j=i
        ·subst e
         exact HALL.out
        ·exact H.out j hj hj' (by omega)
   ·have hie:i=n:=by omega
    subst hie;clear hat hat';go_wp2;go_ret;refine ⟨zV ?_,_,HW.out⟩;rw [HR.out];exact (jI (by rw [←HN.out,←HM.out]) (fun j hj hj'=>H.out j hj hj' (by rw [HN.out];exact hj))).symm
 ·have hq:((n:Int) != (m:Int))=true:=by simp;omega
  clear hat hat' hn hm;go_enter Tryz.func20,Tryz.ntmps20;go_wp2;go_ret;refine ⟨zV ?_,0,rfl⟩;rw [HR.out];exact (zAq (by rw [←HN.out,←HM.out];exact hlen)).symm
theorem enter112 (args:Array Value) (w:World):(callFunc 112 args).run Tryz.prog w=.ok (.enter 112 args) w:=by kernel_rfl
theorem enter115 (args:Array Value) (w:World):(callFunc 115 args).run Tryz.prog w=.ok (.enter 115 args) w:=by kernel_rfl
theorem enter118 (args:Array Value) (w:World):(callFunc 118 args).run Tryz.prog w=.ok (.enter 118 args) w:=by kernel_rfl
theorem enter119 (args:Array Value) (w:World):(callFunc 119 args).run Tryz.prog w=.ok (.enter 119 args) w:=by kernel_rfl
theorem zBl {b g cap:Nat} {L:List Tk.Tok} {len op nx n1 m:Nat} {e0 x:Ex} (hG:Gives 119 b g cap L len op nx n1 e0) (hR:Rem 119 b g cap L len op 3 5 n1 e0 m x):Gives 118 b g cap L len op nx m x:=by
 refine ⟨Nat.le_trans hG.1 hR.le,fun w h=>?_⟩;have hb:=h.bb;have hg:=h.gb;have hmf:=vM;go_enter Tryz.func118,Tryz.ntmps118;go_wp2_with fail;refine (zAS hG hR enter119 (h.alloc _)).mono ?_;rintro r w1 ⟨y,rfl,he1,h1,a1⟩;have hA1:=a1.keep (zF w _) (by simp) (by simp;omega);have fa:=fun o=>fo hA1 o;obtain ⟨ca0,ca1,ca2,ca3,ca4,ca5⟩:=zH hA1;have A1:=((Aside.refl (S:=[b]) (B:=w.heap.size) w).alloc nR _).trans a1 (by simp);have he2:=he1.wide (ok':=fun i=>w.heap.size<i) (fun i hi hl=>by simp at hi;omega);go_wp2;refine bodyPost_ret (v:=.agg #[.int .i64 y.op,.int .i64 y.k,.int .i64 y.n,.string y.name,.slice y.aS y.nS y.cS,.slice y.aL y.nL y.cL]) (by simp [results,Tryz.results118,go_sem,ca0,ca1,ca2,ca3,ca4,ca5]) rfl ⟨y,rfl,?_,?_,?_⟩
 ·exact ((((((he2.set (by simp) _).set (by simp) _).set (by simp) _).set (by simp) _).set (by simp) _).set (by simp) _).wide (fun i hi _=>Nat.le_of_lt hi)
 ·exact (((((h1.set (by simp;omega) (by simp;omega) _).set (by simp;omega) (by simp;omega) _).set (by simp;omega) (by simp;omega) _).set (by simp;omega) (by simp;omega) _).set (by simp;omega) (by simp;omega) _).set (by simp;omega) (by simp;omega) _
 ·exact (((((A1.set (by simp) _).set (by simp) _).set (by simp) _).set (by simp) _).set (by simp) _).set (by simp) _
theorem sum_ok {b g cap:Nat} {L:List Tk.Tok} {len op nx n1 m:Nat} {e0 x:Ex} (hG:Gives 118 b g cap L len op nx n1 e0) (hR:Rem 118 b g cap L len op 1 2 n1 e0 m x):Gives 117 b g cap L len op nx m x:=by
 refine ⟨Nat.le_trans hG.1 hR.le,fun w h=>?_⟩;have hb:=h.bb;have hg:=h.gb;have hmf:=vM;go_enter Tryz.func117,Tryz.ntmps117;go_wp2_with fail;refine (zAS hG hR enter118 (h.alloc _)).mono ?_;rintro r w1 ⟨y,rfl,he1,h1,a1⟩;have hA1:=a1.keep (zF w _) (by simp) (by simp;omega);have fa:=fun o=>fo hA1 o;obtain ⟨ca0,ca1,ca2,ca3,ca4,ca5⟩:=zH hA1;have A1:=((Aside.refl (S:=[b]) (B:=w.heap.size) w).alloc nR _).trans a1 (by simp);have he2:=he1.wide (ok':=fun i=>w.heap.size<i) (fun i hi hl=>by simp at hi;omega);go_wp2;refine bodyPost_ret (v:=.agg #[.int .i64 y.op,.int .i64 y.k,.int .i64 y.n,.string y.name,.slice y.aS y.nS y.cS,.slice y.aL y.nL y.cL]) (by simp [results,Tryz.results117,go_sem,ca0,ca1,ca2,ca3,ca4,ca5]) rfl ⟨y,rfl,?_,?_,?_⟩
 ·exact ((((((he2.set (by simp) _).set (by simp) _).set (by simp) _).set (by simp) _).set (by simp) _).set (by simp) _).wide (fun i hi _=>Nat.le_of_lt hi)
 ·exact (((((h1.set (by simp;omega) (by simp;omega) _).set (by simp;omega) (by simp;omega) _).set (by simp;omega) (by simp;omega) _).set (by simp;omega) (by simp;omega) _).set (by simp;omega) (by simp;omega) _).set (by simp;omega) (by simp;omega) _
 ·exact (((((A1.set (by simp) _).set (by simp) _).set (by simp) _).set (by simp) _).set (by simp) _).set (by simp) _
theorem zDS {b g cap:Nat} {L:List Tk.Tok} {len op nx n1 m:Nat} {e0 x:Ex} (hG:Gives 115 b g cap L len op nx n1 e0) (hR:Rem 115 b g cap L len op 10 10 n1 e0 m x):Gives 112 b g cap L len op nx m x:=by
 refine ⟨Nat.le_trans hG.1 hR.le,fun w h=>?_⟩;have hb:=h.bb;have hg:=h.gb;have hmf:=vM;go_enter Tryz.func112,Tryz.ntmps112;go_wp2_with fail;refine (zAS hG hR enter115 (h.alloc _)).mono ?_;rintro r w1 ⟨y,rfl,he1,h1,a1⟩;have hA1:=a1.keep (zF w _) (by simp) (by simp;omega);have fa:=fun o=>fo hA1 o;obtain ⟨ca0,ca1,ca2,ca3,ca4,ca5⟩:=zH hA1;have A1:=((Aside.refl (S:=[b]) (B:=w.heap.size) w).alloc nR _).trans a1 (by simp);have he2:=he1.wide (ok':=fun i=>w.heap.size<i) (fun i hi hl=>by simp at hi;omega);go_wp2;refine bodyPost_ret (v:=.agg #[.int .i64 y.op,.int .i64 y.k,.int .i64 y.n,.string y.name,.slice y.aS y.nS y.cS,.slice y.aL y.nL y.cL]) (by simp [results,Tryz.results112,go_sem,ca0,ca1,ca2,ca3,ca4,ca5]) rfl ⟨y,rfl,?_,?_,?_⟩
 ·exact ((((((he2.set (by simp) _).set (by simp) _).set (by simp) _).set (by simp) _).set (by simp) _).set (by simp) _).wide (fun i hi _=>Nat.le_of_lt hi)
 ·exact (((((h1.set (by simp;omega) (by simp;omega) _).set (by simp;omega) (by simp;omega) _).set (by simp;omega) (by simp;omega) _).set (by simp;omega) (by simp;omega) _).set (by simp;omega) (by simp;omega) _).set (by simp;omega) (by simp;omega) _
 ·exact (((((A1.set (by simp) _).set (by simp) _).set (by simp) _).set (by simp) _).set (by simp) _).set (by simp) _
theorem expr_ok {b g cap:Nat} {L:List Tk.Tok} {len op nx n1 m:Nat} {e0 x:Ex} (hG:Gives 112 b g cap L len op nx n1 e0) (hR:Rem 112 b g cap L len op 11 12 n1 e0 m x):Gives 108 b g cap L len op nx m x:=by
 refine ⟨Nat.le_trans hG.1 hR.le,fun w h=>?_⟩;have hb:=h.bb;have hg:=h.gb;have hmf:=vM;go_enter Tryz.func108,Tryz.ntmps108;go_wp2_with fail;refine (zAS hG hR enter112 (h.alloc _)).mono ?_;rintro r w1 ⟨y,rfl,he1,h1,a1⟩;have hA1:=a1.keep (zF w _) (by simp) (by simp;omega);have fa:=fun o=>fo hA1 o;obtain ⟨ca0,ca1,ca2,ca3,ca4,ca5⟩:=zH hA1;have A1:=((Aside.refl (S:=[b]) (B:=w.heap.size) w).alloc nR _).trans a1 (by simp);have he2:=he1.wide (ok':=fun i=>w.heap.size<i) (fun i hi hl=>by simp at hi;omega);go_wp2;refine bodyPost_ret (v:=.agg #[.int .i64 y.op,.int .i64 y.k,.int .i64 y.n,.string y.name,.slice y.aS y.nS y.cS,.slice y.aL y.nL y.cL]) (by simp [results,Tryz.results108,go_sem,ca0,ca1,ca2,ca3,ca4,ca5]) rfl ⟨y,rfl,?_,?_,?_⟩
 ·exact ((((((he2.set (by simp) _).set (by simp) _).set (by simp) _).set (by simp) _).set (by simp) _).set (by simp) _).wide (fun i hi _=>Nat.le_of_lt hi)
 ·exact (((((h1.set (by simp;omega) (by simp;omega) _).set (by simp;omega) (by simp;omega) _).set (by simp;omega) (by simp;omega) _).set (by simp;omega) (by simp;omega) _).set (by simp;omega) (by simp;omega) _).set (by simp;omega) (by simp;omega) _
 ·exact (((((A1.set (by simp) _).set (by simp) _).set (by simp) _).set (by simp) _).set (by simp) _).set (by simp) _
theorem unit_name {b g cap:Nat} {L:List Tk.Tok} {len op nx:Nat} (hk:(peekT L len nx).kind=2) (hn:nx<L.length):Gives 121 b g cap L len op nx (nx+1) (.mk 3 0 0 (str (peekT L len nx).text) [] []):=by
 refine ⟨Nat.le_succ _,fun w h=>?_⟩;have hb:=h.bb;have hg:=h.gb;have hp:=fun o=>@xH _ _ _ _ _ _ _ _ (h.alloc o);obtain ⟨t,ht⟩:=nm (peekT L len nx);rw [←ht] at hk ⊢;have hp':∀ o,Calls Tryz.prog 63 #[.pointer (some ⟨b,0,none⟩)] (w.alloc o) fun e w'=>e=.returned (.agg #[.int .i64 2,.int .i64 (t.place:Int),.string (str t.text),.int .i64 t.n])∧Below (w.alloc o).heap.size (w.alloc o) w':=by
  intro o;have:=hp o;rw [←ht] at this;unfold tokV at this;rw [hk] at this;exact this
 clear ht hp;go_enter Tryz.func121,Tryz.ntmps121;go_wp2_with fail;refine (hp' _).mono ?_;rintro r w1 ⟨rfl,b1⟩;have z1:w.heap.size+1≤w1.heap.size:=(by simpa using b1.size);have hA1:=(aside b1 (S:=[])).keep (zF w _) (by simp) (by simp);have h1:=(h.alloc _).below b1;have A1:=((Aside.refl (S:=[b]) (B:=w.heap.size) w).alloc nR _).trans (aside b1) (by simp);clear b1;go_wp2_with fail;refine (qS (h1.alloc _) hn).mono ?_;rintro r w2 ⟨rfl,h2,a2⟩;have hA2:=a2.keep (kA hA1 _) (by simp;omega) (by simp;omega);have hT2:=a2.keep (zF w1 _) (by simp) (by simp;omega);have A2:=(A1.alloc (by omega) _).trans a2 (by simp;omega);have ct2:=co hT2 2;have ct3:=co hT2 3;have fa:=fun o=>fo hA2 o;have ca0:=co hA2 0;have ca1:=co hA2 1;have ca2:=co hA2 2;have ca3:=co hA2 3;have ca4:=co hA2 4;have ca5:=co hA2 5;simp at ca0 ca1 ca2 ca3 ca4 ca5 ct2 ct3;go_wp2;refine bodyPost_ret (v:=.agg #[.int .i64 3,.int .i64 0,.int .i64 0,.string (str t.text),.slice none 0 0,.slice none 0 0]) (by simp [results,Tryz.results121,go_sem,ca0,ca1,ca2,ca3,ca4,ca5]) rfl ⟨⟨3,0,0,str t.text,none,0,0,none,0,0⟩,rfl,HEx.leaf _ _ _ _,?_,?_⟩
 ·exact (((((h2.set (by simp;omega) (by simp;omega) _).set (by simp;omega) (by simp;omega) _).set (by simp;omega) (by simp;omega) _).set (by simp;omega) (by simp;omega) _).set (by simp;omega) (by simp;omega) _).set (by simp;omega) (by simp;omega) _
 ·exact (((((A2.set (by simp) _).set (by simp) _).set (by simp) _).set (by simp) _).set (by simp) _).set (by simp) _
theorem zDC {b g cap:Nat} {L:List Tk.Tok} {len op nx:Nat} (hk:(peekT L len nx).kind=3) (hn:nx<L.length):Gives 121 b g cap L len op nx (nx+1) (.mk 1 0 (peekT L len nx).n ⟨#[]⟩ [] []):=by
 refine ⟨Nat.le_succ _,fun w h=>?_⟩;have hb:=h.bb;have hg:=h.gb;have hp:=fun o=>@xH _ _ _ _ _ _ _ _ (h.alloc o);obtain ⟨t,ht⟩:=nm (peekT L len nx);rw [←ht] at hk ⊢;have hp':∀ o,Calls Tryz.prog 63 #[.pointer (some ⟨b,0,none⟩)] (w.alloc o) fun e w'=>e=.returned (.agg #[.int .i64 3,.int .i64 (t.place:Int),.string (str t.text),.int .i64 t.n])∧Below (w.alloc o).heap.size (w.alloc o) w':=by
  intro o;have:=hp o;rw [←ht] at this;unfold tokV at this;rw [hk] at this;exact this
 clear ht hp;go_enter Tryz.func121,Tryz.ntmps121;go_wp2_with fail;refine (hp' _).mono ?_;rintro r w1 ⟨rfl,b1⟩;have z1:w.heap.size+1≤w1.heap.size:=(by simpa using b1.size);have hA1:=(aside b1 (S:=[])).keep (zF w _) (by simp) (by simp);have h1:=(h.alloc _).below b1;have A1:=((Aside.refl (S:=[b]) (B:=w.heap.size) w).alloc nR _).trans (aside b1) (by simp);clear b1;go_wp2_with fail;refine (qS (h1.alloc _) hn).mono ?_;rintro r w2 ⟨rfl,h2,a2⟩;have hA2:=a2.keep (kA hA1 _) (by simp;omega) (by simp;omega);have hT2:=a2.keep (zF w1 _) (by simp) (by simp;omega);have A2:=(A1.alloc (by omega) _).trans a2 (by simp;omega);have ct2:=co hT2 2;have ct3:=co hT2 3;have fa:=fun o=>fo hA2 o;have ca0:=co hA2 0;have ca1:=co hA2 1;have ca2:=co hA2 2;have ca3:=co hA2 3;have ca4:=co hA2 4;have ca5:=co hA2 5;simp at ca0 ca1 ca2 ca3 ca4 ca5 ct2 ct3;go_wp2;refine bodyPost_ret (v:=.agg #[.int .i64 1,.int .i64 0,.int .i64 t.n,.string ⟨#[]⟩,.slice none 0 0,.slice none 0 0]) (by simp [results,Tryz.results121,go_sem,ca0,ca1,ca2,ca3,ca4,ca5]) rfl ⟨⟨1,0,t.n,⟨#[]⟩,none,0,0,none,0,0⟩,rfl,HEx.leaf _ _ _ _,?_,?_⟩
 ·exact (((((h2.set (by simp;omega) (by simp;omega) _).set (by simp;omega) (by simp;omega) _).set (by simp;omega) (by simp;omega) _).set (by simp;omega) (by simp;omega) _).set (by simp;omega) (by simp;omega) _).set (by simp;omega) (by simp;omega) _
 ·exact (((((A2.set (by simp) _).set (by simp) _).set (by simp) _).set (by simp) _).set (by simp) _).set (by simp) _
theorem zDD {b g cap:Nat} {L:List Tk.Tok} {len op nx n1:Nat} {e:Ex} (hG:Gives 121 b g cap L len op nx n1 e) (hm:((peekT L len nx).text==[45])=false) (hnt:((peekT L len nx).text==[110,111,116])=false) (hi:((peekT L len n1).text==[91])=false):Gives 119 b g cap L len op nx n1 e:=by
 refine ⟨hG.1,fun w h=>?_⟩;have hb:=h.bb;have hg:=h.gb;have s1:=fun o=>jJ (h.alloc o) ⟨#[45]⟩;go_enter Tryz.func119,Tryz.ntmps119;go_wp2_with fail;refine (jJ (h.alloc _) ⟨#[45]⟩).mono ?_;rintro r w1 ⟨rfl,b1⟩;rw [hm];have h1:=(h.alloc _).below b1;have z1:w.heap.size+1≤w1.heap.size:=(by simpa using b1.size);have hA1:=(aside b1 (S:=[])).keep (zF w _) (by simp) (by simp);have A1:=((Aside.refl (S:=[b]) (B:=w.heap.size) w).alloc nR _).trans (aside b1) (by simp);clear b1 s1;go_wp2_with fail;refine (jJ h1 ⟨#[110,111,116]⟩).mono ?_;rintro r w2 ⟨rfl,b2⟩;rw [hnt];have h2:=h1.below b2;have z2:=b2.size;have hA2:=(aside b2 (S:=[])).keep hA1 (zC hA1) (by simp);have A2:=A1.trans (aside b2) (by omega);clear b2 hA1 A1;go_wp2_with fail;refine (hG.2 _ h2).mono ?_;rintro r w3 ⟨y,rfl,he3,h3,a3⟩;have z3:=a3.size;have hA3:=a3.keep hA2 (zC hA2) (by simp;omega);have A3:=A2.trans a3 (by omega);clear a3 hA2 A2;go_wp2;go_loopg [17] 0 (fun k v wr=>wr=w3.alloc (.cells (exC y) 45 (0,0)))
 case atStart=>rfl
 case round=>
  subst hrel;go_wp2_with fail;refine (jJ (h3.alloc _) ⟨#[91]⟩).mono ?_;rintro r w4 ⟨rfl,b4⟩;rw [hi];have z4:w3.heap.size+1≤w4.heap.size:=(by simpa using b4.size);have h4:=(h3.alloc _).below b4;have hA4:=(aside b4 (S:=[])).keep (kA hA3 _) (by simp;omega) (by simp);have hB4:=(aside b4 (S:=[])).keep (zF w3 _) (by simp) (by simp);have A4:=(A3.alloc (by omega) _).trans (aside b4) (by simp;omega);have he4:=((he3.wide (ok':=fun i=>w.heap.size<i) (fun i hi hl=>by omega)).under ((Below.refl _ w3).alloc nR _)).under b4;clear b4;have fa:=fun o=>fo hA4 o;have ca0:=co hA4 0;have ca1:=co hA4 1;have ca2:=co hA4 2;have ca3:=co hA4 3;have ca4:=co hA4 4;have ca5:=co hA4 5;have cb0:=co hB4 0;have cb1:=co hB4 1;have cb2:=co hB4 2;have cb3:=co hB4 3;have cb4:=co hB4 4;have cb5:=co hB4 5;simp at ca0 ca1 ca2 ca3 ca4 ca5 cb0 cb1 cb2 cb3 cb4 cb5;go_wp2;refine bodyPost_ret (v:=.agg #[.int .i64 y.op,.int .i64 y.k,.int .i64 y.n,.string y.name,.slice y.aS y.nS y.cS,.slice y.aL y.nL y.cL]) (by simp [results,Tryz.results119,go_sem,ca0,ca1,ca2,ca3,ca4,ca5]) rfl ⟨y,rfl,?_,?_,?_⟩
  ·exact ((((((he4.set (by simp) _).set (by simp) _).set (by simp) _).set (by simp) _).set (by simp) _).set (by simp) _).wide (fun i hi _=>Nat.le_of_lt hi)
  ·exact (((((h4.set (by simp;omega) (by simp;omega) _).set (by simp;omega) (by simp;omega) _).set (by simp;omega) (by simp;omega) _).set (by simp;omega) (by simp;omega) _).set (by simp;omega) (by simp;omega) _).set (by simp;omega) (by simp;omega) _
  ·exact (((((A4.set (by simp) _).set (by simp) _).set (by simp) _).set (by simp) _).set (by simp) _).set (by simp) _
theorem zDE {b g cap:Nat} {L:List Tk.Tok} {len op nx n1:Nat} {e:Ex} (hG:Gives 117 b g cap L len op nx n1 e) (hz:btw 8 9 (peekT L len n1).text=0):Gives 115 b g cap L len op nx n1 e:=by
 refine ⟨hG.1,fun w h=>?_⟩;have hb:=h.bb;have hg:=h.gb;go_enter Tryz.func115,Tryz.ntmps115;go_wp2_with fail;refine (hG.2 _ (h.alloc _)).mono ?_;rintro r w3 ⟨y,rfl,he3,h3,a3⟩;have z3:w.heap.size+1≤w3.heap.size:=(by simpa using a3.size);have hA3:=a3.keep (zF w _) (by simp) (by simp;omega);have A3:=((Aside.refl (S:=[b]) (B:=w.heap.size) w).alloc nR _).trans a3 (by simp);clear a3;go_wp2_with fail;refine (zAR (h3.alloc _) 8 9).mono ?_;rintro r w4 ⟨rfl,b4⟩;rw [hz];have z4:w3.heap.size+1≤w4.heap.size:=(by simpa using b4.size);have h4:=(h3.alloc _).below b4;have hA4:=(aside b4 (S:=[])).keep (kA hA3 _) (by simp;omega) (by simp);have hB4:=(aside b4 (S:=[])).keep (zF w3 _) (by simp) (by simp);have A4:=(A3.alloc (by omega) _).trans (aside b4) (by simp;omega);have he4:=((he3.wide (ok':=fun i=>w.heap.size<i) (fun i hi hl=>by simp at hi;omega)).under ((Below.refl _ w3).alloc nR _)).under b4;clear b4;have fa:=fun o=>fo hA4 o;have ca0:=co hA4 0;have ca1:=co hA4 1;have ca2:=co hA4 2;have ca3:=co hA4 3;have ca4:=co hA4 4;have ca5:=co hA4 5;have cb0:=co hB4 0;have cb1:=co hB4 1;have cb2:=co hB4 2;have cb3:=co hB4 3;have cb4:=co hB4 4;have cb5:=co hB4 5;simp at ca0 ca1 ca2 ca3 ca4 ca5 cb0 cb1 cb2 cb3 cb4 cb5;go_wp2;refine bodyPost_ret (v:=.agg #[.int .i64 y.op,.int .i64 y.k,.int .i64 y.n,.string y.name,.slice y.aS y.nS y.cS,.slice y.aL y.nL y.cL]) (by simp [results,Tryz.results115,go_sem,ca0,ca1,ca2,ca3,ca4,ca5]) rfl ⟨y,rfl,?_,?_,?_⟩
 ·exact ((((((he4.set (by simp) _).set (by simp) _).set (by simp) _).set (by simp) _).set (by simp) _).set (by simp) _).wide (fun i hi _=>Nat.le_of_lt hi)
 ·exact (((((h4.set (by simp;omega) (by simp;omega) _).set (by simp;omega) (by simp;omega) _).set (by simp;omega) (by simp;omega) _).set (by simp;omega) (by simp;omega) _).set (by simp;omega) (by simp;omega) _).set (by simp;omega) (by simp;omega) _
 ·exact (((((A4.set (by simp) _).set (by simp) _).set (by simp) _).set (by simp) _).set (by simp) _).set (by simp) _
end Go.Proofs.YthkpanbgkimhoaaGreatDoor
namespace Go.Proofs.YthkpanbgkimhoaaGreatDoor
open Go.RowKit Go.IntWalk
def ExAt (w:World) (b o:Nat) (y:ExV):Prop :=
 w.cell? ⟨b,o,none⟩=some (.int .i64 y.op)∧w.cell? ⟨b,o+1,none⟩=some (.int .i64 y.k)∧w.cell? ⟨b,o+2,none⟩=some (.int .i64 y.n) ∧
 w.cell? ⟨b,o+3,none⟩=some (.string y.name)∧w.cell? ⟨b,o+4,none⟩=some (.slice y.aS y.nS y.cS)∧w.cell? ⟨b,o+5,none⟩=some (.slice y.aL y.nL y.cL)
theorem ExAt.keep {w w':World} {b o:Nat} {y:ExV} (h:ExAt w b o y) (hb:w'.heap[b]?=w.heap[b]?):ExAt w' b o y:=by
 have hc:∀ q,w'.cell? ⟨b,q,none⟩=w.cell? ⟨b,q,none⟩:=fun q=>World.cell?_of_block (w:=w) hb;obtain ⟨h0,h1,h2,h3,h4,h5⟩:=h;exact ⟨(hc _).trans h0,(hc _).trans h1,(hc _).trans h2,(hc _).trans h3,(hc _).trans h4,(hc _).trans h5⟩
theorem Sl.exAt {ok:Nat→Prop} {w:World} {v:Value} {L:List Ex} {C:Nat→List Value} (hL:Sl ok 6 w v L.length C) (hE:∀ i (h:i<L.length),HEx ok w (C i) L[i]) :
  ∃ ao cap,v=.slice ao L.length cap∧L.length≤cap∧cap≤maxLen∧∀ i (h:i<L.length),∃ b o y,ao=some ⟨b,o,none⟩∧ok b∧b<w.heap.size∧ExAt w b (o+i*6) y∧HEx ok w y.cells L[i]:=by
 obtain ⟨ao,cap,hv,h1,h2,h3⟩:=hL;refine ⟨ao,cap,hv,h1,h2,fun i hi=>?_⟩;obtain ⟨b,o,ha,hob,hb,hc⟩:=h3 (by omega);obtain ⟨y,hy,hex⟩:=(hE i hi).toV;have hcc:=(hc i hi).2;rw [hy] at hcc;exact ⟨b,o,y,ha,hob,hb,⟨hcc 0 (by decide),hcc 1 (by decide),hcc 2 (by decide),hcc 3 (by decide),hcc 4 (by decide),hcc 5 (by decide)⟩,hex⟩
mutual
def parts:Ex→Nat
 | .mk _ _ _ _ _ L=>1+partsL L
def partsL:List Ex→Nat
 | []=>0
 | e :: l=>parts e+partsL l
end
theorem zBF:∀ (L:List Ex) (i:Nat) (h:i<L.length),partsL (L.take (i+1))=partsL (L.take i)+parts L[i]
 | [],i,h=>by simp at h
 | e :: L,0,h=>by simp [partsL]
 | e :: L,i+1,h=>by
  have:=zBF L i (by simpa using h);simp [partsL] at this ⊢;omega
theorem zCR:∀ (L:List Ex) (i:Nat),partsL (L.take i)≤partsL L
 | [],i=>by simp [partsL]
 | e :: L,0=>by simp [partsL]
 | e :: L,i+1=>by have:=zCR L i;simp [partsL];omega
theorem parts_mem:∀ (L:List Ex) (i:Nat) (h:i<L.length),parts L[i]≤partsL L:=fun L i h=>by
 have h1:=zBF L i h;have h2:=zCR L (i+1);omega
theorem zAE:∀ (n:Nat) (e:Ex),parts e≤n→n≤1099511627776→∀ (ok:Nat→Prop) (x:ExV) (w:World),HEx ok w x.cells e →
  Calls Tryz.prog 109 #[.agg #[.int .i64 x.op,.int .i64 x.k,.int .i64 x.n,.string x.name,.slice x.aS x.nS x.cS,.slice x.aL x.nL x.cL]] w fun r w'=>r=.returned (.int .i64 (parts e:Int))∧Below w.heap.size w w'
 | 0,.mk _ _ _ _ _ L,hn,_,_,_,_,_=>by simp [parts] at hn
 | n+1,.mk op k nn name S L,hn,hbig,ok,x,w,hx=>by
  obtain ⟨oo,kk,nv,nm,aS,nS,cS,aL,nL,cL⟩:=x;have hp:1+partsL L≤n+1:=(by simpa [parts] using hn);rw [parts];have HI:∀ e,parts e≤n→∀ (ok:Nat→Prop) (x:ExV) (w:World),HEx ok w x.cells e →
   Calls Tryz.prog 109 #[.agg #[.int .i64 x.op,.int .i64 x.k,.int .i64 x.n,.string x.name,.slice x.aS x.nS x.cS,.slice x.aL x.nL x.cL]] w fun r w'=>r=.returned (.int .i64 (parts e:Int))∧Below w.heap.size w w':=
   fun e he=>zAE n e he (by omega)
  cases hx with
  | @mk _ _ _ _ _ _ _ _ C hS hL hE=>
   obtain ⟨ao,cap,hv,hc1,hc2,hat⟩:=hL.exAt hE;injection hv with q1 q2 q3;subst q1 q2 q3;have hcm:=hc2;unfold maxLen at hcm;go_enter Tryz.func109,Tryz.ntmps109;go_wp2;go_loopg [3,9] L.length (fun q v3 v9 wr=>∃ i,i≤L.length∧q=L.length-i∧v9=.int .i64 (i:Nat)∧v3=.int .i64 ((1+partsL (L.take i):Nat):Int)∧Below w.heap.size w wr)
   case atStart=>exact ⟨0,Nat.zero_le _,rfl,rfl,by simp [partsL],(Below.refl _ w).alloc nR _⟩
   case round=>
    obtain ⟨i,hi,rfl,rfl,rfl,hbr⟩:=hrel;by_cases hlt:i<L.length
    ·obtain ⟨b,o,y,rfl,_,hb,hxa,hy⟩:=hat i hlt
     obtain ⟨c0,c1,c2,c3,c4,c5⟩:=hxa.keep (hbr.block b hb);have ht:=zBF L i hlt;have hl:=zCR L (i+1);have hy':=(hy.under hbr).under ((Below.refl _ wr).alloc nR (.cells (exC y) 45 (0,0)));go_wp2_with fail;refine (HI L[i] (by have:=parts_mem L i hlt;omega) ok y _ hy').mono ?_;rintro r w2 ⟨rfl,b2⟩;have hb2:Below w.heap.size w w2:=(hbr.alloc hbr.size _).trans (b2.mono (by have:=hbr.size;simp;omega));have HT:=zD ht;have HL:=zD hl;clear ht hl hy' hat HI;go_wp2;go_roundg (L.length-(i+1))
     case measure=>omega
     case rel=>
      have ht:=HT.out;have hl:=HL.out;rw [ht] at hl;exact ⟨i+1,by omega,rfl,by go_num,by rw [ht,wrap64_in _ (by omega)];go_num,hb2⟩
    ·have hie:i=L.length:=by omega
     subst hie;clear hat HI;go_wp2;go_ret;exact ⟨qX (by rw [List.take_length]),hbr⟩
theorem whole_ok {b g cap:Nat} {L:List Tk.Tok} {len op nx n1:Nat} {e:Ex} (hG:Gives 108 b g cap L len op nx n1 e) (hp:parts e≤30):Gives 102 b g cap L len op nx n1 e:=by
 refine ⟨hG.1,fun w h=>?_⟩;have hb:=h.bb;have hg:=h.gb;have hf:=fun t x w=>tokF1 t x w;have hd:decide ((30:Int)<(parts e:Int))=false:=(by simp;omega);go_enter Tryz.func102,Tryz.ntmps102;go_wp2_with fail;refine (xH (h.alloc _)).mono ?_;unfold tokV;rintro r w1 ⟨rfl,b1⟩;have h1:=(h.alloc _).below b1;have z1:w.heap.size+1≤w1.heap.size:=(by simpa using b1.size);have hA1:=(aside b1 (S:=[])).keep (zF w _) (by simp) (by simp);have A1:=((Aside.refl (S:=[b]) (B:=w.heap.size) w).alloc nR _).trans (aside b1) (by simp);clear b1;go_wp2_with fail;refine (hG.2 _ h1).mono ?_;rintro r w3 ⟨y,rfl,he3,h3,a3⟩;have z3:=a3.size;have hA3:=a3.keep hA1 (zC hA1) (by simp;omega);have A3:=A1.trans a3 (by omega);have he3':=(he3.wide (ok':=fun i=>w.heap.size<i) (fun i hi hl=>by omega)).under ((Below.refl _ w3).alloc nR (.cells (exC y) 45 (0,0)));clear a3 hA1 A1 he3;go_wp2_with fail;refine (zAE 30 e hp (by decide) _ y _ he3').mono ?_;rintro r w4 ⟨rfl,b4⟩;have z4:w3.heap.size+1≤w4.heap.size:=(by simpa using b4.size);have h4:=(h3.alloc _).below b4;have hA4:=(aside b4 (S:=[])).keep (kA hA3 _) (by simp;omega) (by simp);have hB4:=(aside b4 (S:=[])).keep (zF w3 _) (by simp) (by simp);have A4:=(A3.alloc (by omega) _).trans (aside b4) (by simp;omega);have he4:=he3'.under b4;clear b4;have fa:=fun o=>fo hA4 o;have ca0:=co hA4 0;have ca1:=co hA4 1;have ca2:=co hA4 2;have ca3:=co hA4 3;have ca4:=co hA4 4;have ca5:=co hA4 5;have cb0:=co hB4 0;have cb1:=co hB4 1;have cb2:=co hB4 2;have cb3:=co hB4 3;have cb4:=co hB4 4;have cb5:=co hB4 5;simp at ca0 ca1 ca2 ca3 ca4 ca5 cb0 cb1 cb2 cb3 cb4 cb5;go_wp2;refine bodyPost_ret (v:=.agg #[.int .i64 y.op,.int .i64 y.k,.int .i64 y.n,.string y.name,.slice y.aS y.nS y.cS,.slice y.aL y.nL y.cL]) (by simp [results,Tryz.results102,go_sem,ca0,ca1,ca2,ca3,ca4,ca5]) rfl ⟨y,rfl,?_,?_,?_⟩
 ·exact ((((((he4.set (by simp) _).set (by simp) _).set (by simp) _).set (by simp) _).set (by simp) _).set (by simp) _).wide (fun i hi _=>Nat.le_of_lt hi)
 ·exact (((((h4.set (by simp;omega) (by simp;omega) _).set (by simp;omega) (by simp;omega) _).set (by simp;omega) (by simp;omega) _).set (by simp;omega) (by simp;omega) _).set (by simp;omega) (by simp;omega) _).set (by simp;omega) (by simp;omega) _
 ·exact (((((A4.set (by simp) _).set (by simp) _).set (by simp) _).set (by simp) _).set (by simp) _).set (by simp) _
end Go.Proofs.YthkpanbgkimhoaaGreatDoor
namespace Go.Proofs.YthkpanbgkimhoaaGreatDoor
open Go.RowKit Go.IntWalk
mutual
def xeq:Ex→Ex→Bool
 | .mk o k n s S L,.mk o' k' n' s' S' L'=>(o==o')&&(k==k')&&(n==n')&&seq s s'&&eqL (eqL teq) S S'&&xeqs L L'
def xeqs:List Ex→List Ex→Bool
 | [],[]=>true
 | a :: l,b :: r=>xeq a b&&xeqs l r
 | _,_=>false
end
theorem zAN:∀ l r:List Ex,xeqs l r=eqL xeq l r
 | [],[]=>by simp [xeqs,eqL]
 | [],_ :: _=>by simp [xeqs,eqL]
 | _ :: _,[]=>by simp [xeqs,eqL]
 | a :: l,b :: r=>by simp [xeqs,eqL,zAN l r]
theorem zAX (S:List (List Tm)):eqL (eqL teq) S S=true:=xJ S fun x _=>xJ x fun y _=>teq_refl y
mutual
theorem zBB:∀ e:Ex,xeq e e=true
 | .mk o k n s S L=>by simp [xeq,jN,zAX,xeqs_refl L]
theorem xeqs_refl:∀ l:List Ex,xeqs l l=true
 | []=>by simp [xeqs]
 | a :: l=>by simp [xeqs,zBB a,xeqs_refl l]
end
def HExs (ok:Nat→Prop) (w:World) (v:Value) (L:List Ex):Prop:=∃ C,Sl ok 6 w v L.length C∧∀ i (h:i<L.length),HEx ok w (C i) L[i]
theorem HExs.keep {ok:Nat→Prop} {w w':World} {v:Value} {l:List Ex} (h:HExs ok w v l) (hs:w.heap.size≤w'.heap.size) (hk:∀ i,ok i→i<w.heap.size→w'.heap[i]?=w.heap[i]?):HExs ok w' v l:=by
 obtain ⟨C,h1,h2⟩:=h;exact ⟨C,h1.keep hs hk,fun i hi=>(h2 i hi).keep hs hk⟩
theorem HExs.under {ok:Nat→Prop} {w w':World} {v:Value} {l:List Ex} (h:HExs ok w v l) (a:Below w.heap.size w w'):HExs ok w' v l:=h.keep a.size fun i _ hl=>a.block i hl
theorem HExs.at {ok:Nat→Prop} {w:World} {v:Value} {L:List Ex} (h:HExs ok w v L) :
  ∃ ao cap,v=.slice ao L.length cap∧L.length≤cap∧cap≤maxLen∧∀ i (h:i<L.length),∃ b o y,ao=some ⟨b,o,none⟩∧ok b∧b<w.heap.size∧ExAt w b (o+i*6) y∧HEx ok w y.cells L[i]:=by
 obtain ⟨C,h1,h2⟩:=h;exact h1.exAt h2
theorem HEx.parts {ok:Nat→Prop} {w:World} {x:ExV} {e:Ex} (h:HEx ok w x.cells e):x.op=e.op∧x.k=e.k∧x.n=e.n∧x.name=e.name∧HSizes ok w (.slice x.aS x.nS x.cS) e.S∧HExs ok w (.slice x.aL x.nL x.cL) e.L:=by
 obtain ⟨o,k,n,s,a,b,c,d,f,g⟩:=x
 cases h with
 | mk C hS hL hE=>exact ⟨rfl,rfl,rfl,rfl,hS,C,hL,hE⟩
def ComparesR (q:Nat):Prop:=∀ (ok ok':Nat→Prop) (w:World) (v u:Value) (l r:List Ex),partsL l<q→HExs ok w v l→HExs ok' w u r →
 Calls Tryz.prog 22 #[v,u] w fun e w'=>e=.returned (.bool (eqL xeq l r))∧∃ m,w'=w.drewN m
end Go.Proofs.YthkpanbgkimhoaaGreatDoor
namespace Go.Proofs.YthkpanbgkimhoaaGreatDoor
open Go.RowKit Go.IntWalk
def qeq (a b:Eqn):Bool:=eqL seq a.names b.names&&seq a.node b.node&&eqL (eqL teq) a.S b.S&&eqL xeq a.E b.E
structure EqV where
 place:Int
 aN:Option Addr
 nN:Nat
 cN:Nat
 node:ByteArray
 aS:Option Addr
 nS:Nat
 cS:Nat
 aE:Option Addr
 nE:Nat
 cE:Nat
def EqV.cells (x:EqV):List Value:=[.int .i64 x.place,.slice x.aN x.nN x.cN,.string x.node,.slice x.aS x.nS x.cS,.slice x.aE x.nE x.cE]
structure HEq (ok:Nat→Prop) (w:World) (x:EqV) (q:Eqn):Prop where
 place:x.place=q.place
 names:HNames ok w (.slice x.aN x.nN x.cN) q.names
 node:x.node=q.node
 S:HSizes ok w (.slice x.aS x.nS x.cS) q.S
 E:HExs ok w (.slice x.aE x.nE x.cE) q.E
theorem HEq.keep {ok:Nat→Prop} {w w':World} {x:EqV} {q:Eqn} (h:HEq ok w x q) (hs:w.heap.size≤w'.heap.size) (hk:∀ i,ok i→i<w.heap.size→w'.heap[i]?=w.heap[i]?):HEq ok w' x q :=
 ⟨h.place,h.names.keep hs hk,h.node,h.S.keep hs hk,h.E.keep hs hk⟩
theorem HEq.under {ok:Nat→Prop} {w w':World} {x:EqV} {q:Eqn} (h:HEq ok w x q) (a:Below w.heap.size w w'):HEq ok w' x q:=h.keep a.size fun i _ hl=>a.block i hl
def EqAt (w:World) (b o:Nat) (y:EqV):Prop :=
 w.cell? ⟨b,o,none⟩=some (.int .i64 y.place)∧w.cell? ⟨b,o+1,none⟩=some (.slice y.aN y.nN y.cN)∧w.cell? ⟨b,o+2,none⟩=some (.string y.node) ∧
 w.cell? ⟨b,o+3,none⟩=some (.slice y.aS y.nS y.cS)∧w.cell? ⟨b,o+4,none⟩=some (.slice y.aE y.nE y.cE)
theorem EqAt.keep {w w':World} {b o:Nat} {y:EqV} (h:EqAt w b o y) (hb:w'.heap[b]?=w.heap[b]?):EqAt w' b o y:=by
 have hc:∀ q,w'.cell? ⟨b,q,none⟩=w.cell? ⟨b,q,none⟩:=fun q=>World.cell?_of_block (w:=w) hb;obtain ⟨h0,h1,h2,h3,h4⟩:=h;exact ⟨(hc _).trans h0,(hc _).trans h1,(hc _).trans h2,(hc _).trans h3,(hc _).trans h4⟩
def HEqs (ok:Nat→Prop) (w:World) (v:Value) (l:List Eqn):Prop:=∃ C,Sl ok 5 w v l.length C∧∀ i (h:i<l.length),∃ x,C i=x.cells∧HEq ok w x l[i]
theorem HEqs.keep {ok:Nat→Prop} {w w':World} {v:Value} {l:List Eqn} (h:HEqs ok w v l) (hs:w.heap.size≤w'.heap.size) (hk:∀ i,ok i→i<w.heap.size→w'.heap[i]?=w.heap[i]?):HEqs ok w' v l:=by
 obtain ⟨C,h1,h2⟩:=h;refine ⟨C,h1.keep hs hk,fun i hi=>?_⟩;obtain ⟨x,e,hx⟩:=h2 i hi;exact ⟨x,e,hx.keep hs hk⟩
theorem HEqs.under {ok:Nat→Prop} {w w':World} {v:Value} {l:List Eqn} (h:HEqs ok w v l) (a:Below w.heap.size w w'):HEqs ok w' v l:=h.keep a.size fun i _ hl=>a.block i hl
theorem HEqs.at {ok:Nat→Prop} {w:World} {v:Value} {l:List Eqn} (h:HEqs ok w v l) :
  ∃ ao cap,v=.slice ao l.length cap∧l.length≤cap∧cap≤maxLen∧∀ i (h:i<l.length),∃ b o y,ao=some ⟨b,o,none⟩∧b<w.heap.size∧EqAt w b (o+i*5) y∧HEq ok w y l[i]:=by
 obtain ⟨C,⟨ao,cap,hv,h1,h2,h3⟩,hC⟩:=h;refine ⟨ao,cap,hv,h1,h2,fun i hi=>?_⟩;obtain ⟨b,o,ha,hob,hb,hc⟩:=h3 (by omega);obtain ⟨x,hx,hq⟩:=hC i hi;have hcc:=(hc i hi).2;rw [hx] at hcc;exact ⟨b,o,x,ha,hb,⟨hcc 0 (by decide),hcc 1 (by decide),hcc 2 (by decide),hcc 3 (by decide),hcc 4 (by decide)⟩,hq⟩
def neq (a b:Nd):Bool:=seq a.name b.name&&(eqL seq a.sizes b.sizes&&(eqL deq a.inn b.inn&&(eqL deq a.out b.out&&(eqL deq a.loc b.loc&&eqL qeq a.eqs b.eqs))))
structure NdV where
 name:ByteArray
 place:Int
 a2:Option Addr
 n2:Nat
 c2:Nat
 a3:Option Addr
 n3:Nat
 c3:Nat
 a4:Option Addr
 n4:Nat
 c4:Nat
 a5:Option Addr
 n5:Nat
 c5:Nat
 a6:Option Addr
 n6:Nat
 c6:Nat
def NdV.cells (x:NdV):List Value:=[.string x.name,.int .i64 x.place,.slice x.a2 x.n2 x.c2,.slice x.a3 x.n3 x.c3,.slice x.a4 x.n4 x.c4,.slice x.a5 x.n5 x.c5,.slice x.a6 x.n6 x.c6]
structure HNd (ok:Nat→Prop) (w:World) (x:NdV) (n:Nd):Prop where
 name:x.name=n.name
 place:x.place=n.place
 sizes:HNames ok w (.slice x.a2 x.n2 x.c2) n.sizes
 inn:HDes ok w (.slice x.a3 x.n3 x.c3) n.inn
 out:HDes ok w (.slice x.a4 x.n4 x.c4) n.out
 loc:HDes ok w (.slice x.a5 x.n5 x.c5) n.loc
 eqs:HEqs ok w (.slice x.a6 x.n6 x.c6) n.eqs
theorem HNd.keep {ok:Nat→Prop} {w w':World} {x:NdV} {n:Nd} (h:HNd ok w x n) (hs:w.heap.size≤w'.heap.size) (hk:∀ i,ok i→i<w.heap.size→w'.heap[i]?=w.heap[i]?):HNd ok w' x n :=
 ⟨h.name,h.place,h.sizes.keep hs hk,h.inn.keep hs hk,h.out.keep hs hk,h.loc.keep hs hk,h.eqs.keep hs hk⟩
theorem HNd.under {ok:Nat→Prop} {w w':World} {x:NdV} {n:Nd} (h:HNd ok w x n) (a:Below w.heap.size w w'):HNd ok w' x n:=h.keep a.size fun i _ hl=>a.block i hl
def NdAt (w:World) (b o:Nat) (y:NdV):Prop :=
 w.cell? ⟨b,o,none⟩=some (.string y.name)∧w.cell? ⟨b,o+1,none⟩=some (.int .i64 y.place)∧w.cell? ⟨b,o+2,none⟩=some (.slice y.a2 y.n2 y.c2)∧w.cell? ⟨b,o+3,none⟩=some (.slice y.a3 y.n3 y.c3) ∧
 w.cell? ⟨b,o+4,none⟩=some (.slice y.a4 y.n4 y.c4)∧w.cell? ⟨b,o+5,none⟩=some (.slice y.a5 y.n5 y.c5)∧w.cell? ⟨b,o+6,none⟩=some (.slice y.a6 y.n6 y.c6)
theorem NdAt.keep {w w':World} {b o:Nat} {y:NdV} (h:NdAt w b o y) (hb:w'.heap[b]?=w.heap[b]?):NdAt w' b o y:=by
 have hc:∀ q,w'.cell? ⟨b,q,none⟩=w.cell? ⟨b,q,none⟩:=fun q=>World.cell?_of_block (w:=w) hb;obtain ⟨h0,h1,h2,h3,h4,h5,h6⟩:=h;exact ⟨(hc _).trans h0,(hc _).trans h1,(hc _).trans h2,(hc _).trans h3,(hc _).trans h4,(hc _).trans h5,(hc _).trans h6⟩
def HNds (ok:Nat→Prop) (w:World) (v:Value) (l:List Nd):Prop:=∃ C,Sl ok 7 w v l.length C∧∀ i (h:i<l.length),∃ x,C i=x.cells∧HNd ok w x l[i]
theorem HNds.keep {ok:Nat→Prop} {w w':World} {v:Value} {l:List Nd} (h:HNds ok w v l) (hs:w.heap.size≤w'.heap.size) (hk:∀ i,ok i→i<w.heap.size→w'.heap[i]?=w.heap[i]?):HNds ok w' v l:=by
 obtain ⟨C,h1,h2⟩:=h;refine ⟨C,h1.keep hs hk,fun i hi=>?_⟩;obtain ⟨x,e,hx⟩:=h2 i hi;exact ⟨x,e,hx.keep hs hk⟩
theorem HNds.under {ok:Nat→Prop} {w w':World} {v:Value} {l:List Nd} (h:HNds ok w v l) (a:Below w.heap.size w w'):HNds ok w' v l:=h.keep a.size fun i _ hl=>a.block i hl
theorem HNds.at {ok:Nat→Prop} {w:World} {v:Value} {l:List Nd} (h:HNds ok w v l) :
  ∃ ao cap,v=.slice ao l.length cap∧l.length≤cap∧cap≤maxLen∧∀ i (h:i<l.length),∃ b o y,ao=some ⟨b,o,none⟩∧b<w.heap.size∧NdAt w b (o+i*7) y∧HNd ok w y l[i]:=by
 obtain ⟨C,⟨ao,cap,hv,h1,h2,h3⟩,hC⟩:=h;refine ⟨ao,cap,hv,h1,h2,fun i hi=>?_⟩;obtain ⟨b,o,ha,hob,hb,hc⟩:=h3 (by omega);obtain ⟨x,hx,hq⟩:=hC i hi;have hcc:=(hc i hi).2;rw [hx] at hcc;exact ⟨b,o,x,ha,hb,⟨hcc 0 (by decide),hcc 1 (by decide),hcc 2 (by decide),hcc 3 (by decide),hcc 4 (by decide),hcc 5 (by decide),hcc 6 (by decide)⟩,hq⟩
end Go.Proofs.YthkpanbgkimhoaaGreatDoor
