import Derived.Test.YthkpanbgkimhoaaGreatDoorM06
import Derived.Test.YthkpanbgkimhoaaGreatDoorM05
import Derived.Test.YthkpanbgkimhoaaGreatDoorM02
import Derived.Test.YthkpanbgkimhoaaGreatDoorM04
import Derived.WalkLawsBesides
set_option linter.unusedVariables false
set_option linter.unusedSimpArgs false
set_option maxHeartbeats 64000000
set_option maxRecDepth 100000
namespace Go.Proofs.YthkpanbgkimhoaaGreatDoor
open Go.RowKit Go.IntWalk
def RowAt {α:Type} (R:Nat→Res α) (most:Nat) (wr:World) (b g cap:Nat) (ao:Option Addr) (I:Inp) (nx:Nat) (pt:Int) (acc:List α):Prop :=
 (∃ n,Rr wr b g cap ao I n 0 0 pt∧1≤acc.length∧acc.length≤most∧Ps.row I R most [] nx=if Ps.sees I [44] n=true then Ps.row I R (most-acc.length) acc (n+1) else .ok acc n) ∨
 (∃ n c a pt',4≤c∧Rr wr b g cap ao I n ((c:Nat):Int) ((a:Nat):Int) pt'∧Ps.row I R most [] nx=.err c a)
theorem row_start {α:Type} {R:Nat→Res α} {I:Inp} {nx m f:Nat} {v:α} (h:R nx=.ok v m):Ps.row I R (f+1) [] nx=if Ps.sees I [44] m=true then Ps.row I R f [v] (m+1) else .ok [v] m:=by
 rw [Ps.row,h];rfl
theorem zBf {α:Type} {R:Nat→Res α} {I:Inp} {nx c a f:Nat} (h:R nx=.err c a):Ps.row I R (f+1) [] nx=.err c a:=by
 rw [Ps.row,h];rfl
theorem row_more {α:Type} {R:Nat→Res α} {I:Inp} {n m f:Nat} {acc:List α} {v:α} (h:R n=.ok v m):Ps.row I R (f+1) acc n=if Ps.sees I [44] m=true then Ps.row I R f (acc++[v]) (m+1) else .ok (acc++[v]) m:=by
 rw [Ps.row,h];rfl
theorem zCE {α:Type} {R:Nat→Res α} {I:Inp} {n c a f:Nat} {acc:List α} (h:R n=.err c a):Ps.row I R (f+1) acc n=.err c a:=by
 rw [Ps.row,h];rfl
theorem row_full {α:Type} {R:Nat→Res α} {I:Inp} {n:Nat} {acc:List α}:Ps.row I R 0 acc n=.err 7 (I.pk n).place:=by
 rw [Ps.row]
theorem zBS {B:Nat} {w:World} {v:Value} {d:De} (h:dclV B w v d):∃ a n c,v=.agg #[.string d.name,.int .u8 d.elem,.slice a n c]∧kDecl.E (fun i=>B≤i) w [.string d.name,.int .u8 d.elem,.slice a n c] d:=by
 obtain ⟨a,n,c,e,hT⟩:=h;exact ⟨a,n,c,e,_,rfl,hT⟩
theorem declsR_bad {w:World} {b g cap:Nat} {ao:Option Addr} {I:Inp} {nx:Nat} {fc fa pt:Int} (h:Rr w b g cap ao I nx fc fa pt) (hf:fc≠0) :
  Calls Tryz.prog 47 #[.pointer (some ⟨b,0,none⟩)] w fun e w'=>∃ v l,e=.returned v∧OwnL kDecl w.heap.size w' v l∧Below w.heap.size w w':=by
 go_enter Tryz.func47,Tryz.ntmps47;go_wp2_with fail;refine (declR_bad h hf).mono ?_;rintro e w1 ⟨v1,d1,rfl,hd1,b1⟩;obtain ⟨a1,n1,c1,rfl,hE1⟩:=zBS hd1;have h1:=h.past b1;have y1:=b1.size;have own1:OwnL kDecl w.heap.size (w1.alloc (.cells #[.string d1.name,.int .u8 d1.elem,.slice a1 n1 c1] 94 (0,0))) (.slice (some ⟨w1.heap.size,0,none⟩) 1 1) [d1]:=OwnL.lit (T:=kDecl) (cs:=[.string d1.name,.int .u8 d1.elem,.slice a1 n1 c1]) y1 hE1;have bA:∀ o,Below w1.heap.size w1 (w1.alloc o):=fun o=>(Below.refl _ _).alloc nR o;have h2:=h1.past (bA (.cells #[.string d1.name,.int .u8 d1.elem,.slice a1 n1 c1] 94 (0,0)));have B2:=b1.trans ((bA (.cells #[.string d1.name,.int .u8 d1.elem,.slice a1 n1 c1] 94 (0,0))).mono y1);go_wp2;go_loopg [3] 0 (fun k v wr=>∃ l,OwnL kDecl w.heap.size wr v l∧Rr wr b g cap ao I nx fc fa pt∧Below w.heap.size w wr)
 case atStart=>exact ⟨_,own1,h2,B2⟩
 case round=>
  obtain ⟨l,hown,hr,hB⟩:=hrel;have yr:=hB.size;obtain ⟨aa,cc,rfl,hc1,hc2⟩:=hown.form;unfold maxLen at hc2;go_wp2_with fail;refine (zCd hr hf _ _).mono ?_;rintro e w4 ⟨rfl,b4⟩;have own4:=hown.below b4;have B4:=hB.trans (b4.mono yr);go_wp2;go_ret;exact ⟨_,_,rfl,own4,B4⟩
theorem declsR_any {w:World} {b g cap:Nat} {ao:Option Addr} {I:Inp} {nx:Nat} {pt:Int} (h:Rr w b g cap ao I nx 0 0 pt) (hS:Sure I) (hgb:g<w.heap.size) :
  Calls Tryz.prog 47 #[.pointer (some ⟨b,0,none⟩)] w fun e w'=>∃ v l,e=.returned v∧OwnL kDecl w.heap.size w' v l∧Aside [b] w.heap.size w w'∧Went w' b g cap ao I pt (Ps.row I (Ps.decl I) 30 [] nx)∧∀ z m,Ps.row I (Ps.decl I) 30 [] nx=.ok z m→l=z:=by
 have hbb:=h.cells.2.2.2.2.2.2;have k44:=hS.known [44] (Or.inr ⟨by decide,by decide⟩) (by decide);go_enter Tryz.func47,Tryz.ntmps47;go_wp2_with fail;refine (zCW h hS hgb).mono ?_;rintro e w1 ⟨v1,d1,rfl,hd1,a1',g1,vd1⟩;obtain ⟨a1,n1,c1,rfl,hE1⟩:=zBS hd1;have y1:=a1'.size;have own1:OwnL kDecl w.heap.size (w1.alloc (.cells #[.string d1.name,.int .u8 d1.elem,.slice a1 n1 c1] 94 (0,0))) (.slice (some ⟨w1.heap.size,0,none⟩) 1 1) [d1]:=OwnL.lit (T:=kDecl) (cs:=[.string d1.name,.int .u8 d1.elem,.slice a1 n1 c1]) y1 hE1;have bA:∀ o,Below w1.heap.size w1 (w1.alloc o):=fun o=>(Below.refl _ _).alloc nR o;have A2:=a1'.trans (aside (bA (.cells #[.string d1.name,.int .u8 d1.elem,.slice a1 n1 c1] 94 (0,0)))) y1;have start:Hid (RowAt (Ps.decl I) 30 (w1.alloc (.cells #[.string d1.name,.int .u8 d1.elem,.slice a1 n1 c1] 94 (0,0))) b g cap ao I nx pt [d1]):=by
  show RowAt _ _ _ _ _ _ _ _ _ _ _
  cases ht:Ps.decl I nx with
  | ok t m=>
   rw [ht] at g1;obtain rfl:=vd1 t m ht;exact .inl ⟨m,Rr.past (show Rr w1 b g cap ao I m 0 0 pt from g1) (bA _),by simp,by simp,row_start ht⟩
  | err c a=>
   rw [ht] at g1;obtain ⟨n5,p5,h5⟩:=g1;exact .inr ⟨n5,c,a,p5,((zBM hS.rel nx).err c a ht).1,h5.past (bA _),zBf ht⟩
 clear g1 vd1 hd1 hE1;go_wp2;go_loopg [3] 30 (fun k v wr=>∃ acc,OwnL kDecl w.heap.size wr v acc∧Hid (RowAt (Ps.decl I) 30 wr b g cap ao I nx pt acc)∧k+acc.length=31∧Aside [b] w.heap.size w wr)
 case atStart=>exact ⟨_,own1,start,rfl,A2⟩
 case round=>
  obtain ⟨acc,hown,hrow,hgk,hA⟩:=hrel;have zr:=hA.size;obtain ⟨aa,cc,rfl,hc1,hc2⟩:=hown.form;unfold maxLen at hc2;rcases hrow.out with ⟨n,hr,hk1,hk2,hmod⟩ | ⟨n,c,a,p,h4,hr,hmod⟩
  ·have HMOD:=zD hmod
   clear hmod hrow;have hcom:=comma_any hr hS.kind k44 (acc.length:Int) 30;by_cases hx:Ps.sees I [44] n=true
   ·by_cases hm:(30:Int)≤(acc.length:Int)
    ·have eC:commaR I (acc.length:Int) 30 n=.err 7 (I.pk (n+1)).place:=by unfold commaR;rw [if_pos hx,if_pos hm]
     rw [eC] at hcom;have hE:Hid (Ps.row I (Ps.decl I) 30 [] nx=.err 7 (I.pk (n+1)).place):=by
      show Ps.row I (Ps.decl I) 30 [] nx=_
      rw [HMOD.out,if_pos hx,show 30-acc.length=0 by omega,row_full]
     clear HMOD eC;go_wp2_with fail;refine hcom.mono ?_;rintro e wa ⟨u,rfl,⟨na,pa,ha⟩,aa',hu⟩;obtain rfl:u=_:=hu;have owna:=hown.past aa' (by simp;omega);have Aa:=hA.trans aa' zr;go_wp2;go_ret;exact ⟨_,acc,rfl,owna,Aa,by rw [hE.out];exact ⟨_,_,ha⟩,fun z m e=>by rw [hE.out] at e;cases e⟩
    ·have eC:commaR I (acc.length:Int) 30 n=.ok true (n+1):=by unfold commaR;rw [if_pos hx,if_neg hm]
     rw [eC] at hcom;obtain ⟨f,hfe⟩:∃ f,30-acc.length=f+1:=⟨29-acc.length,by omega⟩;have hE:Hid (Ps.row I (Ps.decl I) 30 [] nx=Ps.row I (Ps.decl I) (f+1) acc (n+1)):=by
      show Ps.row I (Ps.decl I) 30 [] nx=_
      rw [HMOD.out,if_pos hx,hfe]
     clear HMOD eC;go_wp2_with fail;refine hcom.mono ?_;rintro e wb ⟨u,rfl,hb',ab',hu⟩;have hb':Rr wb b g cap ao I (n+1) 0 0 pt:=hb';obtain rfl:u=_:=hu;have ownb:=hown.past ab' (by simp;omega);have Ab:=hA.trans ab' zr;have yb:=Ab.size;go_wp2_with fail;refine (zCW hb' hS (by omega)).mono ?_;rintro e wc ⟨v3,d3,rfl,hd3,a3',g3,vd3⟩;obtain ⟨a3,n3,c3,rfl,hE3⟩:=zBS hd3;have ownc:=ownb.past a3' (by simp;omega);have hNb:=fun k hk=>(ownb.lt k hk).2;have Ac:=Ab.trans a3' yb;have yc:=Ac.size;have q1:kDecl.E (fun i=>wb.heap.size≤i) wc [.string d3.name,.int .u8 d3.elem,.slice a3 n3 c3] d3:=hE3;have q2:(acc.length+1)*kDecl.bytes≤140737488355328:=(by show (acc.length+1)*48≤_;omega);have q3:acc.length+1≤maxLen:=(by unfold maxLen;omega)
     go_wp2_with (at_builtin;refine xD kDecl rfl _ _ 36 94 rfl Tryz.underlying36 w.heap.size wb.heap.size _ acc (by rfl) ownc [.string d3.name,.int .u8 d3.elem,.slice a3 n3 c3] d3 q1 (by rfl) hNb yb yc q2 q3 ?_;intro vd wd ownd bd _ _)
     have Ad:Aside [b] w.heap.size w wd:=Ac.trans (aside bd) nR;have next:Hid (RowAt (Ps.decl I) 30 wd b g cap ao I nx pt (acc++[d3])):=by
      show RowAt _ _ _ _ _ _ _ _ _ _ _
      cases ht:Ps.decl I (n+1) with
      | ok t m=>
       rw [ht] at g3;obtain rfl:=vd3 t m ht;refine .inl ⟨m,Rr.far (show Rr wc b g cap ao I m 0 0 pt from g3) bd hbb hgb,by simp,by simp;omega,?_⟩;rw [hE.out,row_more ht,show 30-(acc++[d3]).length=f by simp;omega]
      | err c a=>
       rw [ht] at g3;obtain ⟨n5,p5,h5⟩:=g3;exact .inr ⟨n5,c,a,p5,((zBM hS.rel (n+1)).err c a ht).1,h5.far bd hbb hgb,by rw [hE.out,zCE ht]⟩
     clear g3 vd3 hE hd3 hE3 q1;go_wp2;go_roundg (30-acc.length)
     case rel=>exact ⟨_,ownd,next,by simp;omega,Ad⟩
     case measure=>omega
   ·have eC:commaR I (acc.length:Int) 30 n=.ok false n:=by unfold commaR;rw [if_neg hx]
    rw [eC] at hcom;have hE:Hid (Ps.row I (Ps.decl I) 30 [] nx=.ok acc n):=by
     show Ps.row I (Ps.decl I) 30 [] nx=_
     rw [HMOD.out,if_neg hx]
    clear HMOD eC;go_wp2_with fail;refine hcom.mono ?_;rintro e wa ⟨u,rfl,ha,aa',hu⟩;have ha:Rr wa b g cap ao I n 0 0 pt:=ha;obtain rfl:u=_:=hu;have owna:=hown.past aa' (by simp;omega);have Aa:=hA.trans aa' zr;go_wp2;go_ret;exact ⟨_,acc,rfl,owna,Aa,by rw [hE.out];exact ha,fun z m e=>by rw [hE.out] at e;injection e⟩
  ·have HMOD:=zD hmod
   clear hmod hrow;have hf:((c:Nat):Int)≠0:=(by omega);obtain ⟨fc,hfc⟩:=nm (((c:Nat):Int));rw [←hfc] at hr hf;have HFC:=zD hfc;clear hfc;go_wp2_with fail;refine (zCd hr hf _ _).mono ?_;rintro e w6 ⟨rfl,b6⟩;have h6:=hr.past b6;have own6:=hown.below b6;have A6:=hA.trans (aside b6) zr;go_wp2;go_ret;rw [HFC.out] at h6;exact ⟨_,acc,rfl,own6,A6,by rw [HMOD.out];exact ⟨_,_,h6⟩,fun z m e=>by rw [HMOD.out] at e;cases e⟩
def OwnX {α:Type} (T:Kind α) (ok:Nat→Prop) (w:World) (v:Value) (l:List α):Prop :=
 ∃ D,w.ownsRow 0 T.ty T.k v l.length (flat D l.length)∧(∀ k,v.ownBlock=some k→ok k)∧∀ j (h:j<l.length),T.E (fun i=>ok i∧some i≠v.ownBlock) w (D j) l[j]
theorem OwnX.nil {α:Type} {T:Kind α} {ok:Nat→Prop} {w:World}:OwnX T ok w (.slice none 0 0) [] :=
 ⟨fun _=>[],World.ownsRow_nil _ _ _ _,fun k hk=>(by cases hk),fun j h=>absurd h (Nat.not_lt_zero _)⟩
theorem OwnX.lt {α:Type} {T:Kind α} {ok:Nat→Prop} {w:World} {v:Value} {l:List α} (h:OwnX T ok w v l):∀ k,v.ownBlock=some k→ok k∧k<w.heap.size:=by
 obtain ⟨D,h1,h2,h3⟩:=h;exact fun k hk=>⟨h2 k hk,(World.ownsRow.lt h1 k hk).2⟩
theorem OwnX.form {α:Type} {T:Kind α} {ok:Nat→Prop} {w:World} {v:Value} {l:List α} (h:OwnX T ok w v l):∃ a c,v=.slice a l.length c∧l.length≤c∧c≤maxLen:=by
 obtain ⟨D,h1,h2⟩:=h;rcases h1.2 with ⟨rfl,h0⟩ | ⟨g,cap,cur,rfl,hb,hg,hnc,hcm,_⟩
 ·exact ⟨none,0,by rw [h0],by omega,by unfold maxLen;omega⟩
 ·exact ⟨_,_,rfl,hnc,hcm⟩
theorem OwnX.keep {α:Type} {T:Kind α} {ok:Nat→Prop} {w w':World} {v:Value} {l:List α} (h:OwnX T ok w v l) (hs:w.heap.size≤w'.heap.size) (hk:∀ i,ok i→i<w.heap.size→w'.heap[i]?=w.heap[i]?):OwnX T ok w' v l:=by
 obtain ⟨D,h1,h2,h3⟩:=h;refine ⟨D,⟨h1.1,?_⟩,h2,fun j hj=>T.keep (h3 j hj) hs fun i hi hl=>hk i hi.1 hl⟩;rcases h1.2 with h0 | ⟨g,cap,cur,rfl,hb,hg,hr⟩
 ·exact .inl h0
 ·exact .inr ⟨g,cap,cur,rfl,hb,(hk g (h2 g rfl) (zC hg)).trans hg,hr⟩
theorem OwnX.wide {α:Type} {T:Kind α} {ok ok':Nat→Prop} {w:World} {v:Value} {l:List α} (h:OwnX T ok w v l) (hk:∀ i,ok i→i<w.heap.size→ok' i):OwnX T ok' w v l:=by
 obtain ⟨D,h1,h2,h3⟩:=h;exact ⟨D,h1,fun k hq=>hk k (h2 k hq) (World.ownsRow.lt h1 k hq).2,fun j hj=>T.wide (h3 j hj) fun i hi hl=>⟨hk i hi.1 hl,hi.2⟩⟩
theorem OwnX.under {α:Type} {T:Kind α} {ok:Nat→Prop} {w w':World} {v:Value} {l:List α} (h:OwnX T ok w v l) (hb:Below w.heap.size w w'):OwnX T ok w' v l:=h.keep hb.size fun i _ hl=>hb.block i hl
theorem OwnX.past {α:Type} {T:Kind α} {ok:Nat→Prop} {S:List Nat} {w w':World} {v:Value} {l:List α} (h:OwnX T ok w v l) (a:Aside S w.heap.size w w') (hS:∀ i,ok i→i ∉ S):OwnX T ok w' v l :=
 h.keep a.size fun i hi hl=>a.block i hl (hS i hi)
theorem OwnX.set {α:Type} {T:Kind α} {ok:Nat→Prop} {w:World} {v:Value} {l:List α} (h:OwnX T ok w v l) {p:Addr} (hp:¬ok p.block) (u:Value):OwnX T ok (w.setCell p u) v l :=
 h.keep (by simp [World.setCell]) fun i hi hl=>Below.heap_setCell _ _ _ _ (fun e=>hp (e ▸ hi))
theorem OwnX.row {α:Type} {T:Kind α} {ok:Nat→Prop} {w:World} {v:Value} {l:List α} (h:OwnX T ok w v l):HRow T ok w v l:=by
 obtain ⟨D,h1,h2,h3⟩:=h;obtain ⟨ao,cap,hv,q1,q2,q3⟩:=owns_sl h1 (fun i hi=>T.len (h3 i hi));refine ⟨D,⟨ao,cap,hv,q1,q2,fun hn=>?_⟩,fun j hj=>T.wide (h3 j hj) fun i hi _=>hi.1⟩;obtain ⟨b,o,ha,_,hb,hc⟩:=q3 hn;refine ⟨b,o,ha,?_,hb,hc⟩;obtain ⟨g,cap',hv',_⟩:=zAe h1 hn;rw [hv] at hv';injection hv' with e1 e2 e3;rw [ha] at e1;injection e1 with e1;injection e1 with e4 e5 e6;exact h2 b (by rw [hv,ha,e5];simp [Value.ownBlock])
theorem run_moreX {α:Type} (T:Kind α) {w:World} (t tt ty:TypeId) (ht:Tryz.prog.underlying t=some (.slice T.ty))
  (N:Nat) (ok:Nat→Prop) (v:Value) (l:List α) (hown:OwnX T ok w v l) (cs:List Value) (y:α) (hE:T.E (fun i=>N≤i) w cs y)
  (hN:∀ i,ok i→i<N) (hNw:N≤w.heap.size) (hM:(l.length+1)*T.bytes≤140737488355328) (hm:l.length+1≤maxLen) :
  ∃ v' w',(Builtin.append_ #[t,t] ty #[v,.slice (some ⟨w.heap.size,0,none⟩) 1 1]).run Tryz.prog (w.alloc (.cells cs.toArray tt (0,0)))=.ok v' w'∧OwnX T (fun i=>ok i∨N≤i) w' v' (l++[y])∧(w.alloc (.cells cs.toArray tt (0,0))).grownBy w' v.ownBlock:=by
 obtain ⟨i0,hi,hz0,hz1,hz2⟩:=info_parts T.info;have hown1:=hown.under ((Below.refl _ w).alloc nR (.cells cs.toArray tt (0,0)));obtain ⟨D,hrow,hvb,hD⟩:=hown1;have hl:=T.len hE;obtain ⟨v',w',hrun,hrow',hgrow,hmv⟩:=zDi (P:=Tryz.prog) (w.alloc (.cells cs.toArray tt (0,0))) 0 t ty T.ty i0 T.zero T.k T.bytes ht hi hz0 hz1 hz2 T.zs T.pos v l.length _ hrow ⟨w.heap.size,0,none⟩ 1 1 cs (by simp [hl]) (cells_new w cs tt) (T.one hE) hm hM (by simp);have hmv':v'.ownBlock=v.ownBlock∨∃ k,v'.ownBlock=some k∧w.heap.size+1≤k:=by
  rcases hmv with h | ⟨k,h1,h2⟩
  ·exact .inl h
  ·exact .inr ⟨k,h1,by simpa using h2⟩
 have hgk:∀ k,some k≠v.ownBlock→k<(w.alloc (.cells cs.toArray tt (0,0))).heap.size→w'.heap[k]?=(w.alloc (.cells cs.toArray tt (0,0))).heap[k]?:=fun k hk hl=>hgrow.block k hl hk;have hoff:∀ i,some i≠v.ownBlock→i<w.heap.size+1→some i≠v'.ownBlock:=fun i h1 h2 e=>by
  rcases hmv' with h | ⟨k,hk,hz⟩
  ·exact h1 (e.trans h)
  ·rw [hk] at e
   injection e with e;omega
 refine ⟨v',w',hrun,⟨fun q=>if q=l.length then cs else D q,?_,?_,fun j hj=>?_⟩,hgrow⟩
 ·have e:flat (fun q=>if q=l.length then cs else D q) (l.length+1)=flat D l.length++cs:=by
   rw [flat,zAK (D:=D) l.length (fun q hq=>by rw [if_neg (by omega)])];simp
  rw [List.length_append,List.length_singleton,e];exact hrow'
 ·intro k hk
  rcases hmv' with h | ⟨q,hq,hz⟩
  ·exact .inl (hvb k (h.symm.trans hk))
  ·rw [hq] at hk
   injection hk with hk;exact .inr (by omega)
 ·by_cases e:j=l.length
  ·subst e
   simp only [if_true,List.getElem_append_right nR,Nat.sub_self,List.getElem_cons_zero];have g0:=T.keep (w':=w.alloc (.cells cs.toArray tt (0,0))) hE (by simp) fun i _ hl=>Below.heap_alloc _ _ _ hl;have g1:=T.wide (ok':=fun k=>N≤k∧some k≠v.ownBlock∧k<w.heap.size+1) g0 (fun k hk hl=>⟨hk,fun e=>by have:=hN k (hvb k e.symm);omega,by simpa using hl⟩);have g2:=T.keep g1 hgrow.size (fun k hk hl=>hgk k hk.2.1 hl);exact T.wide g2 (fun k hk _=>⟨.inr hk.1,hoff k hk.2.1 hk.2.2⟩)
  ·have hjl:j<l.length:=by simp at hj;omega
   simp only [if_neg e,List.getElem_append_left hjl];have g1:=T.wide (ok':=fun k=>ok k∧some k≠v.ownBlock∧k<w.heap.size+1) (hD j hjl) (fun k hk hl=>⟨hk.1,hk.2,by simpa using hl⟩);have g2:=T.keep g1 hgrow.size (fun k hk hl=>hgk k hk.2.1 hl);exact T.wide g2 (fun k hk _=>⟨.inl hk.1,hoff k hk.2.1 hk.2.2⟩)
theorem xK {α:Type} (T:Kind α) {w:World} {o:Oper} {a:Act} {K:Act→World→Prop} {Q:Exit→Act→World→Prop} (s x:Operand) (t tt:TypeId)
  (ho:o.op=.call { callee:=.builtin .append,args:=#[s,x],argTypes:=#[t,t] }) (ht:Tryz.prog.underlying t=some (.slice T.ty))
  (N:Nat) (ok:Nat→Prop) (v:Value) (l:List α) (hs:a.eval s=v) (hown:OwnX T ok w v l) (cs:List Value) (y:α) (hE:T.E (fun i=>N≤i) w cs y) (hx:a.eval x=.slice (some ⟨w.heap.size,0,none⟩) 1 1)
  (hN:∀ i,ok i→i<N) (hNw:N≤w.heap.size) (hM:(l.length+1)*T.bytes≤140737488355328) (hm:l.length+1≤maxLen)
  (h:∀ v' w',OwnX T (fun i=>ok i∨N≤i) w' v' (l++[y])→(w.alloc (.cells cs.toArray tt (0,0))).grownBy w' v.ownBlock→K (a.put o.dst v') w') :
  Oper.wp Tryz.prog o a (w.alloc (.cells cs.toArray tt (0,0))) K Q:=by
 obtain ⟨v',w',hr,h2,h3⟩:=run_moreX T t tt o.type ht N ok v l hown cs y hE hN hNw hM hm;unfold Oper.wp execOp;simp only [ho,resolve,invoke,builtin,Sem.run_bind,Sem.run_pure,Result.andThen_ok,List.map_toArray,List.map_cons,List.map_nil,hs,hx,hr];exact h v' w' h2 h3
theorem xC {ok:Nat→Prop} {w W':World} {v:Value} {o:Obj} (hg:(w.alloc o).grownBy W' v.ownBlock) (hv:∀ k,v.ownBlock=some k→ok k):w.heap.size≤W'.heap.size∧∀ k,k<w.heap.size→¬ok k→W'.heap[k]?=w.heap[k]?:=by
 refine ⟨Nat.le_trans (by simp) hg.size,fun k hk hn=>?_⟩;rw [hg.block k (by simp;omega) (fun e=>hn (hv k e.symm))];exact Below.heap_alloc _ _ _ hk
theorem xF {ok:Nat→Prop} {S:List Nat} {B:Nat} {w W':World} {v:Value} {o:Obj} (hg:(w.alloc o).grownBy W' v.ownBlock) (hv:∀ k,v.ownBlock=some k→ok k) (hok:∀ i,ok i→B≤i) (hB:B≤w.heap.size):Aside S B w W' :=
 ⟨hg.os,hg.tape,hg.output,(xC hg hv).1,fun k hk _=>(xC hg hv).2 k (by omega) (fun h=>by have:=hok k h;omega)⟩
theorem zBk {P:Program} {ops:Array Oper} {Q:Exit→Act→World→Prop} {md:Region.Mode} {S:World→Prop} {late:Nat→Bool} {i j:Nat} {oi oj:Oper} {fuel:Nat} {listed:Array Bool} {a:Act} {w:World} (hoi:ops[i]?=some oi) (hoj:ops[j]?=some oj) (hr:Region.ready md ops listed=[i,j])
  (hwi:Region.wanted oi (yielded ops a.tmps)=true) (hwj:Region.wanted oj (yielded ops a.tmps)=true)
  (h1:∀ K':Act→World→Prop,Shut (∀ a w,(late i=false→S w)→wpAnyL P md ops Q S late fuel (listed.setIfInBounds i true) a w→K' a w)→Oper.wp P oi a w K' Q)
  (h2:∀ K':Act→World→Prop,Shut (∀ a w,(late j=false→S w)→wpAnyL P md ops Q S late fuel (listed.setIfInBounds j true) a w→K' a w)→Oper.wp P oj a w K' Q):wpAnyL P md ops Q S late (fuel+1) listed a w:=by
 refine ⟨fun h0=>(by rw [hr] at h0;cases h0),fun q hq=>?_⟩;rw [hr] at hq;simp at hq;rcases hq with rfl | rfl
 ·refine wpOp_step hoi (fun K' hK=>?_)
  rw [if_pos hwi];exact h1 K' (fun a w hS hW=>hK a w ⟨hS,hW⟩)
 ·refine wpOp_step hoj (fun K' hK=>?_)
  rw [if_pos hwj];exact h2 K' (fun a w hS hW=>hK a w ⟨hS,hW⟩)
theorem run_moreG {α:Type} (T:Kind α) {w:World} (t ty:TypeId) (ht:Tryz.prog.underlying t=some (.slice T.ty))
  (N lb:Nat) (ok:Nat→Prop) (v:Value) (l:List α) (hown:OwnX T ok w v l) (cs:List Value) (y:α) (hE:T.E (fun i=>N≤i) w cs y) (hlit:∀ j u,cs[j]?=some u→w.cell? ((⟨lb,0,none⟩:Addr).add j)=some u)
  (hN:∀ i,ok i→i<N) (hNw:N≤w.heap.size) (hM:(l.length+1)*T.bytes≤140737488355328) (hm:l.length+1≤maxLen) :
  ∃ v' w',(Builtin.append_ #[t,t] ty #[v,.slice (some ⟨lb,0,none⟩) 1 1]).run Tryz.prog w=.ok v' w'∧OwnX T (fun i=>ok i∨N≤i) w' v' (l++[y])∧w.grownBy w' v.ownBlock:=by
 obtain ⟨i0,hi,hz0,hz1,hz2⟩:=info_parts T.info;obtain ⟨D,hrow,hvb,hD⟩:=hown;have hl:=T.len hE;obtain ⟨v',w',hrun,hrow',hgrow,hmv⟩:=zDi (P:=Tryz.prog) w 0 t ty T.ty i0 T.zero T.k T.bytes ht hi hz0 hz1 hz2 T.zs T.pos v l.length _ hrow ⟨lb,0,none⟩ 1 1 cs (by simp [hl]) hlit (T.one hE) hm hM (by simp);have hmv':v'.ownBlock=v.ownBlock∨∃ k,v'.ownBlock=some k∧w.heap.size≤k:=hmv;have hgk:∀ k,some k≠v.ownBlock→k<w.heap.size→w'.heap[k]?=w.heap[k]?:=fun k hk hl=>hgrow.block k hl hk;have hoff:∀ i,some i≠v.ownBlock→i<w.heap.size→some i≠v'.ownBlock:=fun i h1 h2 e=>by
  rcases hmv' with h | ⟨k,hk,hz⟩
  ·exact h1 (e.trans h)
  ·rw [hk] at e
   injection e with e;omega
 refine ⟨v',w',hrun,⟨fun q=>if q=l.length then cs else D q,?_,?_,fun j hj=>?_⟩,hgrow⟩
 ·have e:flat (fun q=>if q=l.length then cs else D q) (l.length+1)=flat D l.length++cs:=by
   rw [flat,zAK (D:=D) l.length (fun q hq=>by rw [if_neg (by omega)])];simp
  rw [List.length_append,List.length_singleton,e];exact hrow'
 ·intro k hk
  rcases hmv' with h | ⟨q,hq,hz⟩
  ·exact .inl (hvb k (h.symm.trans hk))
  ·rw [hq] at hk
   injection hk with hk;exact .inr (by omega)
 ·by_cases e:j=l.length
  ·subst e
   simp only [if_true,List.getElem_append_right nR,Nat.sub_self,List.getElem_cons_zero];have g1:=T.wide (ok':=fun k=>N≤k∧some k≠v.ownBlock∧k<w.heap.size) hE (fun k hk hl=>⟨hk,fun e=>by have:=hN k (hvb k e.symm);omega,hl⟩);have g2:=T.keep g1 hgrow.size (fun k hk hl=>hgk k hk.2.1 hl);exact T.wide g2 (fun k hk _=>⟨.inr hk.1,hoff k hk.2.1 hk.2.2⟩)
  ·have hjl:j<l.length:=by simp at hj;omega
   simp only [if_neg e,List.getElem_append_left hjl];have g1:=T.wide (ok':=fun k=>ok k∧some k≠v.ownBlock∧k<w.heap.size) (hD j hjl) (fun k hk hl=>⟨hk.1,hk.2,hl⟩);have g2:=T.keep g1 hgrow.size (fun k hk hl=>hgk k hk.2.1 hl);exact T.wide g2 (fun k hk _=>⟨.inl hk.1,hoff k hk.2.1 hk.2.2⟩)
theorem zDR {α:Type} (T:Kind α) {w:World} {o:Oper} {a:Act} {K:Act→World→Prop} {Q:Exit→Act→World→Prop} (s x:Operand) (t:TypeId)
  (ho:o.op=.call { callee:=.builtin .append,args:=#[s,x],argTypes:=#[t,t] }) (ht:Tryz.prog.underlying t=some (.slice T.ty))
  (N lb:Nat) (ok:Nat→Prop) (v:Value) (l:List α) (hs:a.eval s=v) (hown:OwnX T ok w v l) (cs:List Value) (y:α) (hE:T.E (fun i=>N≤i) w cs y) (hlit:∀ j u,cs[j]?=some u→w.cell? ((⟨lb,0,none⟩:Addr).add j)=some u) (hx:a.eval x=.slice (some ⟨lb,0,none⟩) 1 1)
  (hN:∀ i,ok i→i<N) (hNw:N≤w.heap.size) (hM:(l.length+1)*T.bytes≤140737488355328) (hm:l.length+1≤maxLen)
  (h:∀ v' w',OwnX T (fun i=>ok i∨N≤i) w' v' (l++[y])→w.grownBy w' v.ownBlock→K (a.put o.dst v') w') :
  Oper.wp Tryz.prog o a w K Q:=by
 obtain ⟨v',w',hr,h2,h3⟩:=run_moreG T t o.type ht N lb ok v l hown cs y hE hlit hN hNw hM hm;unfold Oper.wp execOp;simp only [ho,resolve,invoke,builtin,Sem.run_bind,Sem.run_pure,Result.andThen_ok,List.map_toArray,List.map_cons,List.map_nil,hs,hx,hr];exact h v' w' h2 h3
def putAt (w:World) (k o:Nat) (y:ExV):World:=(((((w.setCell ⟨k,o,none⟩ (.int .i64 y.op)).setCell ⟨k,o+1,none⟩ (.int .i64 y.k)).setCell ⟨k,o+2,none⟩ (.int .i64 y.n)).setCell ⟨k,o+3,none⟩ (.string y.name)).setCell ⟨k,o+4,none⟩ (.slice y.aS y.nS y.cS)).setCell ⟨k,o+5,none⟩ (.slice y.aL y.nL y.cL)
theorem qM (w:World) (k o:Nat) (y:ExV):(putAt w k o y).heap.size=w.heap.size:=by simp [putAt,World.setCell]
theorem zY (w:World) (k o:Nat) (y:ExV) (i:Nat) (h:i≠k):(putAt w k o y).heap[i]?=w.heap[i]?:=by
 unfold putAt;rw [Below.heap_setCell _ _ _ _ h,Below.heap_setCell _ _ _ _ h,Below.heap_setCell _ _ _ _ h,Below.heap_setCell _ _ _ _ h,Below.heap_setCell _ _ _ _ h,Below.heap_setCell _ _ _ _ h]
theorem putAt_in {w:World} {k:Nat} {cs:Array Value} {t:TypeId} (h:w.heap[k]?=some (.cells cs t (0,0))) (o:Nat) (y:ExV):(putAt w k o y).heap[k]?=some (.cells ((((((cs.setIfInBounds o (.int .i64 y.op)).setIfInBounds (o+1) (.int .i64 y.k)).setIfInBounds (o+2) (.int .i64 y.n)).setIfInBounds (o+3) (.string y.name)).setIfInBounds (o+4) (.slice y.aS y.nS y.cS)).setIfInBounds (o+5) (.slice y.aL y.nL y.cL)) t (0,0)) :=
 zJ (zJ (zJ (zJ (zJ (zJ h o (.int .i64 y.op)) (o+1) (.int .i64 y.k)) (o+2) (.int .i64 y.n)) (o+3) (.string y.name)) (o+4) (.slice y.aS y.nS y.cS)) (o+5) (.slice y.aL y.nL y.cL)
theorem OwnX.last {ok ok2:Nat→Prop} {w:World} {g c:Nat} {l:List Ex} {y e:Ex} {x:ExV} (h:OwnX kExpr ok w (.slice (some ⟨g,0,none⟩) (l.length+1) c) (l++[y])) (hx:HEx ok2 w x.cells e) (hg:¬ok2 g) :
  OwnX kExpr (fun i=>ok i∨ok2 i) (putAt w g (l.length*6) x) (.slice (some ⟨g,0,none⟩) (l.length+1) c) (l++[e]):=by
 obtain ⟨D,h1,h2,h3⟩:=h;have hlen:(l++[y]).length=l.length+1:=(by simp);have hlen2:(l++[e]).length=l.length+1:=(by simp);have hDl:(D l.length).length=6:=kExpr.len (h3 l.length (by simp));have hDi:∀ i,i<l.length→(D i).length=6:=fun i hi=>kExpr.len (h3 i (by simp;omega));have hfl:=zDh l.length hDi;rw [hlen,flat] at h1;refine ⟨fun q=>if q=l.length then x.cells else D q,?_,?_,fun j hj=>?_⟩
 ·rw [hlen2]
  have ef:flat (fun q=>if q=l.length then x.cells else D q) (l.length+1)=flat D l.length++x.cells:=by
   rw [flat,zAK (D:=D) l.length (fun q hq=>by rw [if_neg (by omega)])];simp
  rw [ef];obtain ⟨hl1,hor⟩:=h1;refine ⟨by rw [List.length_append,hfl];simp [ExV.cells,kExpr];omega,?_⟩;rcases hor with ⟨hv,h0⟩ | ⟨g',cap,cur,hv,hb,hcg,hnc,hcm,hcs,htk⟩
  ·omega
  ·injection hv with e1 e2 e3
   injection e1 with e1;injection e1 with e4 e5 e6;subst e4 e3;refine .inr ⟨g,c,_,rfl,hb,putAt_in hcg _ x,hnc,hcm,by simpa using hcs,?_⟩;have hk6:kExpr.k=6:=rfl;rw [hk6] at htk ⊢;obtain ⟨d0,d1,d2,d3,d4,d5,hd⟩:∃ d0 d1 d2 d3 d4 d5,D l.length=[d0,d1,d2,d3,d4,d5]:=by
    match hq:D l.length,hDl with
    | [d0,d1,d2,d3,d4,d5],_=>exact ⟨d0,d1,d2,d3,d4,d5,rfl⟩
   rw [hd] at htk;simp only [Array.toList_setIfInBounds,List.take_set,htk];rw [←hfl];simp [ExV.cells,List.set_append_right]
 ·intro k hk
  exact .inl (h2 k hk)
 ·by_cases ej:j=l.length
  ·subst ej
   simp only [if_true,List.getElem_append_right nR,Nat.sub_self,List.getElem_cons_zero];have q1:=hx.keep (w':=putAt w g (l.length*6) x) (by rw [qM];exact Nat.le_refl _) fun i hi _=>zY _ _ _ _ _ (fun e=>hg (e ▸ hi));exact q1.wide fun i hi _=>⟨.inr hi,fun e=>by simp [Value.ownBlock] at e;exact hg (e ▸ hi)⟩
  ·have hjl:j<l.length:=by simp at hj;omega
   have q0:=h3 j (by simp;omega);simp only [List.getElem_append_left hjl] at q0;simp only [if_neg ej,List.getElem_append_left hjl];have q1:=kExpr.keep (w':=putAt w g (l.length*6) x) q0 (by rw [qM];exact Nat.le_refl _) fun i hi _=>zY _ _ _ _ _ (fun e=>hi.2 (by rw [e];simp [Value.ownBlock]));exact kExpr.wide q1 fun i hi _=>⟨.inl hi.1,hi.2⟩
end Go.Proofs.YthkpanbgkimhoaaGreatDoor
namespace Go.Proofs.YthkpanbgkimhoaaGreatDoor
mutual
theorem vA:∀ e:Ex,Ps.count e=parts e
 | .mk _ _ _ _ _ L=>by rw [Ps.count,parts,countL_eq L]
theorem countL_eq:∀ L:List Ex,Ps.countL L=partsL L
 | []=>by rw [Ps.countL,partsL]
 | x :: xs=>by rw [Ps.countL,partsL,vA x,countL_eq xs]
end
theorem Res.bind_ok {α β:Type} {r:Res α} {k:α→Nat→Res β} {v:β} {n:Nat} (h:r.bind k=.ok v n):∃ u m,r=.ok u m∧k u m=.ok v n:=by
 cases r with
 | ok u m=>exact ⟨u,m,rfl,h⟩
 | err c a=>cases h
theorem zZ {α:Type} {a b:α} {m n:Nat} (h:Res.ok a m=Res.ok b n):a=b∧m=n:=by
 injection h with h1 h2;exact ⟨h1,h2⟩
theorem zAa {α:Type} {I:Inp} {n:Nat} {v:α} {m:Nat} (h:(Ps.refuse I n:Res α)=.ok v m):False:=by cases h
theorem xV {I:Inp} {s:List UInt8} {n:Nat} {u:Unit} {m:Nat} (h:Ps.need I s n=.ok u m):m=n+1:=by
 unfold Ps.need at h
 split at h
 ·exact (zZ h).2.symm
 ·exact (zAa h).elim
theorem name_ok {I:Inp} {n:Nat} {u:ByteArray} {m:Nat} (h:Ps.name I n=.ok u m):m=n+1:=by
 unfold Ps.name at h
 split at h
 ·exact (zZ h).2.symm
 ·exact (zAa h).elim
theorem term_ok {I:Inp} {b:Bool} {n:Nat} {u:Tm} {m:Nat} (h:Ps.term I b n=.ok u m):n<m:=by
 unfold Ps.term at h
 split at h
 ·split at h
  ·obtain ⟨s,k,h1,h2⟩:=Res.bind_ok h
   have:=name_ok h1;have:=(zZ h2).2;omega
  ·have:=(zZ h).2
   omega
 ·obtain ⟨s,k,h1,h2⟩:=Res.bind_ok h
  have:=name_ok h1;have:=(zZ h2).2;omega
theorem terms_ok {I:Inp}:∀ (f:Nat) (acc:List Tm) (n:Nat) {u:List Tm} {m:Nat},Ps.terms I f acc n=.ok u m→n≤m
 | 0,acc,n,u,m,h=>by
  unfold Ps.terms at h
  split at h
  ·cases h
  ·have:=(zZ h).2
   omega
 | f+1,acc,n,u,m,h=>by
  unfold Ps.terms at h
  split at h
  ·obtain ⟨t,k,h1,h2⟩:=Res.bind_ok h
   have:=term_ok h1;have:=terms_ok f _ k h2;omega
  ·have:=(zZ h).2
   omega
theorem size_ok {I:Inp} {n:Nat} {u:List Tm} {m:Nat} (h:Ps.size I n=.ok u m):n<m:=by
 unfold Ps.size at h;obtain ⟨t,k,h1,h2⟩:=Res.bind_ok h;have h3:=term_ok h1;have h4:=terms_ok _ _ _ h2
 split at h3<;>omega
theorem oper_ok {I:Inp} {n:Nat} {u:Int} {m:Nat} (h:Ps.oper I n=.ok u m):m=n+1:=by
 unfold Ps.oper at h
 split at h
 ·exact (zZ h).2.symm
 ·exact (zAa h).elim
def Nice (R:Nat→Res Ex):Prop:=∀ n e m,R n=.ok e m→parts e+n≤m
theorem more_nice {I:Inp} {R:Nat→Res Ex} {a c:Int} (hR:Nice R):∀ (f:Nat) (e:Ex) (n:Nat) {x:Ex} {m n0:Nat},parts e+n0≤n→Ps.more I R a c f e n=.ok x m→parts x+n0≤m
 | 0,e,n,x,m,n0,h0,h=>by
  obtain ⟨rfl,rfl⟩:=zZ h;exact h0
 | f+1,e,n,x,m,n0,h0,h=>by
  unfold Ps.more at h
  split at h
  ·obtain ⟨rfl,rfl⟩:=zZ h
   exact h0
  ·obtain ⟨r,k,h1,h2⟩:=Res.bind_ok h
   have h3:=hR _ _ _ h1;refine more_nice hR f _ k ?_ h2;simp only [parts,partsL];omega
theorem qL {I:Inp} {R:Nat→Res Ex} {a c:Int} (hR:Nice R):Nice (Ps.fromLeft I R a c):=fun n e m h=>by
 obtain ⟨r,k,h1,h2⟩:=Res.bind_ok h;exact more_nice hR _ _ _ (hR _ _ _ h1) h2
theorem cmp_nice {I:Inp} {R:Nat→Res Ex} (hR:Nice R):Nice (Ps.cmp I R):=fun n e m h=>by
 obtain ⟨r,k,h1,h2⟩:=Res.bind_ok h;have h3:=hR _ _ _ h1
 split at h2
 ·obtain ⟨rfl,rfl⟩:=zZ h2
  exact h3
 ·obtain ⟨s,j,h4,h5⟩:=Res.bind_ok h2
  obtain ⟨rfl,rfl⟩:=zZ h5;have h6:=hR _ _ _ h4;simp only [parts,partsL];omega
theorem xT {I:Inp} {A:Nat→Res Ex} (hA:Nice A):Nice (Ps.exprOf I A):=qL (qL (cmp_nice (qL (qL hA))))
theorem zBd:∀ (a b:List Ex),partsL (a++b)=partsL a+partsL b
 | [],b=>by simp [partsL]
 | x :: a,b=>by simp [partsL,zBd a b];omega
theorem zAo (e x:Ex):parts (Ps.Ex.addL e x)=parts e+parts x:=by
 obtain ⟨o,k,n,s,S,L⟩:=e;simp [Ps.Ex.addL,Ex.L,parts,zBd,partsL];omega
theorem addS_parts (e:Ex) (s:List Tm):parts (Ps.Ex.addS e s)=parts e:=by
 obtain ⟨o,k,n,s,S,L⟩:=e;simp [Ps.Ex.addS,Ex.L,parts]
theorem setK_parts (e:Ex) (k:Int):parts (Ps.Ex.setK e k)=parts e:=by
 obtain ⟨o,k,n,s,S,L⟩:=e;simp [Ps.Ex.setK,Ex.L,parts]
theorem part_nice {I:Inp} {E:Nat→Res Ex} (hE:Nice E) (p:Ps.Pt) {e x:Ex} {n m:Nat} (h:Ps.part I E p e n=.ok x m):parts x+n≤parts e+m:=by
 cases p with
 | part=>
  obtain ⟨r,k,h1,h2⟩:=Res.bind_ok h;obtain ⟨rfl,rfl⟩:=zZ h2;have:=hE _ _ _ h1;rw [zAo];omega
 | size=>
  obtain ⟨r,k,h1,h2⟩:=Res.bind_ok h;obtain ⟨rfl,rfl⟩:=zZ h2;have:=size_ok h1;rw [addS_parts];omega
 | oper=>
  obtain ⟨r,k,h1,h2⟩:=Res.bind_ok h;obtain ⟨rfl,rfl⟩:=zZ h2;have:=oper_ok h1;rw [setK_parts];omega
 | oneOrTwo=>
  obtain ⟨r,k,h1,h2⟩:=Res.bind_ok h;have h3:=hE _ _ _ h1
  split at h2
  ·obtain ⟨s,j,h4,h5⟩:=Res.bind_ok h2
   obtain ⟨rfl,rfl⟩:=zZ h5;have:=hE _ _ _ h4;rw [zAo,zAo];omega
  ·obtain ⟨rfl,rfl⟩:=zZ h2
   rw [zAo];omega
theorem zDO {I:Inp} {E:Nat→Res Ex} (hE:Nice E):∀ (ps:List Ps.Pt) {e x:Ex} {n m:Nat},Ps.parts I E ps e n=.ok x m→parts x+n≤parts e+m
 | [],e,x,n,m,h=>by
  obtain ⟨rfl,rfl⟩:=zZ h;omega
 | p :: ps,e,x,n,m,h=>by
  obtain ⟨u,k,h1,h2⟩:=Res.bind_ok h;obtain ⟨r,j,h3,h4⟩:=Res.bind_ok h2;have:=xV h1;have:=part_nice hE p h3;have:=zDO hE ps h4;omega
theorem zDk {I:Inp} {E:Nat→Res Ex} (hE:Nice E) {p:Ps.Pt} {ps:List Ps.Pt} {e x:Ex} {n m:Nat} (h:Ps.brackets I E p ps e n=.ok x m):parts x+n≤parts e+m:=by
 obtain ⟨u,k,h1,h2⟩:=Res.bind_ok h;obtain ⟨r,j,h3,h4⟩:=Res.bind_ok h2;obtain ⟨s,i,h5,h6⟩:=Res.bind_ok h4;obtain ⟨v,l,h7,h8⟩:=Res.bind_ok h6;obtain ⟨rfl,rfl⟩:=zZ h8;have:=xV h1;have:=part_nice hE p h3;have:=zDO hE ps h5;have:=xV h7;omega
def NiceO (J:Option (Nat→Res Ex)):Prop:=∀ A,J=some A→Nice A
theorem opn_ok {I:Inp} {J:Option (Nat→Res Ex)} {n:Nat} {k:(Nat→Res Ex)→Nat→Res Ex} {x:Ex} {m:Nat} (h:Ps.opn I J n k=.ok x m):∃ A,J=some A∧k A (n+1)=.ok x m:=by
 cases J with
 | none=>cases h
 | some A=>exact ⟨A,rfl,h⟩
theorem form_nice {I:Inp} {J:Option (Nat→Res Ex)} (hJ:NiceO J):Nice (Ps.form I J):=fun n e m h=>by
 unfold Ps.form at h;have go:∀ {op k:Int} {p:Ps.Pt} {ps:List Ps.Pt},(Ps.opn I J n fun A n1=>Ps.brackets I (Ps.exprOf I A) p ps (Ps.bare op k) n1)=.ok e m→parts e+n≤m:=fun {op k p ps} h=>by
  obtain ⟨A,hA,h1⟩:=opn_ok h;have h2:=zDk (xT (hJ A hA)) h1;have h3:parts (Ps.bare op k)=1:=(by simp [Ps.bare,parts,partsL]);omega
 simp only [] at h
 repeat (first | (split at h;exact go h) | exact (zAa h).elim)
theorem zCS {I:Inp} {J:Option (Nat→Res Ex)} (hJ:NiceO J):Nice (Ps.unit I J):=fun n e m h=>by
 unfold Ps.unit at h
 split at h
 ·obtain ⟨rfl,rfl⟩:=zZ h;simp [parts,partsL];omega
 split at h
 ·obtain ⟨rfl,rfl⟩:=zZ h;simp [parts,partsL];omega
 split at h
 ·obtain ⟨rfl,rfl⟩:=zZ h;simp [parts,partsL];omega
 split at h
 ·obtain ⟨rfl,rfl⟩:=zZ h;simp [parts,partsL];omega
 split at h
 ·obtain ⟨A,hA,h1⟩:=opn_ok h
  obtain ⟨r,k,h2,h3⟩:=Res.bind_ok h1;obtain ⟨u,j,h4,h5⟩:=Res.bind_ok h3;obtain ⟨rfl,rfl⟩:=zZ h5;have:=xT (hJ A hA) _ _ _ h2;have:=xV h4;omega
 split at h
 ·obtain ⟨A,hA,h1⟩:=opn_ok h
  obtain ⟨r,k,h2,h3⟩:=Res.bind_ok h1;obtain ⟨u,j,h4,h5⟩:=Res.bind_ok h3;obtain ⟨r2,k2,h6,h7⟩:=Res.bind_ok h5;obtain ⟨u2,j2,h8,h9⟩:=Res.bind_ok h7;obtain ⟨r3,k3,h10,h11⟩:=Res.bind_ok h9;obtain ⟨rfl,rfl⟩:=zZ h11;have:=xT (hJ A hA) _ _ _ h2;have:=xV h4;have:=xT (hJ A hA) _ _ _ h6;have:=xV h8;have:=xT (hJ A hA) _ _ _ h10;simp only [parts,partsL];omega
 exact form_nice hJ _ _ _ h
theorem zBz {I:Inp} {J:Option (Nat→Res Ex)} (hJ:NiceO J):∀ (f:Nat) (e:Ex) (n:Nat) {x:Ex} {m n0:Nat},parts e+n0≤n→Ps.indices I J f e n=.ok x m→parts x+n0≤m
 | 0,e,n,x,m,n0,h0,h=>by
  obtain ⟨rfl,rfl⟩:=zZ h;exact h0
 | f+1,e,n,x,m,n0,h0,h=>by
  unfold Ps.indices at h
  split at h
  ·obtain ⟨r,k,h1,h2⟩:=Res.bind_ok h
   obtain ⟨A,hA,h3⟩:=opn_ok h1;obtain ⟨r1,k1,h4,h5⟩:=Res.bind_ok h3;obtain ⟨u,j,h6,h7⟩:=Res.bind_ok h5;obtain ⟨r2,k2,h8,h9⟩:=Res.bind_ok h7;obtain ⟨u2,j2,h10,h11⟩:=Res.bind_ok h9;obtain ⟨rfl,rfl⟩:=zZ h11;have:=xT (hJ A hA) _ _ _ h4;have:=xV h6;have:=xT (hJ A hA) _ _ _ h8;have:=xV h10;refine zBz hJ f _ _ ?_ h2;simp only [parts,partsL];omega
  ·obtain ⟨rfl,rfl⟩:=zZ h
   exact h0
theorem zCj {I:Inp} {J:Option (Nat→Res Ex)} (hJ:NiceO J):Nice (Ps.aheadS I J):=fun n e m h=>by
 have sg:∀ {k:Int},(Ps.opn I J n fun A n1=>Ps.signed A k n1)=.ok e m→parts e+n≤m:=fun {k} h=>by
  obtain ⟨A,hA,h1⟩:=opn_ok h;obtain ⟨r,j,h2,h3⟩:=Res.bind_ok h1;obtain ⟨rfl,rfl⟩:=zZ h3;have:=hJ A hA _ _ _ h2;simp only [parts,partsL];omega
 unfold Ps.aheadS at h
 split at h
 ·exact sg h
 split at h
 ·exact sg h
 obtain ⟨r,k,h1,h2⟩:=Res.bind_ok h;exact zBz hJ _ _ _ (zCS hJ _ _ _ h1) h2
theorem vR (I:Inp):∀ d,Nice (Ps.ahead I d)
 | 0=>zCj fun A h=>by cases h
 | d+1=>zCj fun A h=>by
  injection h with h;rw [←h];exact vR I d
theorem expr_nice (I:Inp) (d:Nat):Nice (Ps.expr I d):=xT (vR I d)
end Go.Proofs.YthkpanbgkimhoaaGreatDoor
namespace Go.Proofs.YthkpanbgkimhoaaGreatDoor
open Go.RowKit Go.IntWalk
def upV (c a:Int):Value:=.iface 75 (.agg #[.int .i64 c,.int .i64 a])
def upE (c a:Int):Ending:=.panicked [{ v:=upV c a,recovered:=false }]
def Post {α:Type} (b g cap:Nat) (I:Inp) (op:Nat) (V:Nat→World→Value→α→Prop) (nx:Nat) (w:World) (res:Res α) (r:Ending) (w':World):Prop :=
 Aside [b] w.heap.size w w' ∧
 match res with
 | .ok v n1=>nx≤n1∧Rd w' b g cap I.L I.len n1 op∧∃ x,r=.returned x∧V w.heap.size w' x v
 | .err c a=>r=upE c a
theorem xW {I:Inp} {s:List UInt8} {n:Nat} (h:Ps.sees I s n=true) (hs:s≠[]):n<I.L.length:=by
 apply Classical.byContradiction
 intro hn;unfold Ps.sees Inp.pk peekT at h;simp [hn] at h;exact hs h
theorem zCs {I:Inp} {n:Nat} (h:(I.pk n).kind≠0):n<I.L.length:=by
 apply Classical.byContradiction
 intro hn;unfold Inp.pk peekT at h;simp [hn] at h
theorem jF (c a:Int) (w:World):Calls Tryz.prog 85 #[.int .i64 c,.int .i64 a] w fun e w'=>e=upE c a∧w'=w:=by
 go_enter Tryz.func85,Tryz.ntmps85;go_wp2;exact ⟨rfl,rfl,rfl⟩
def noV:Nat→World→Value→Unit→Prop:=fun _ _ x _=>x=.tuple #[]
def strV:Nat→World→Value→ByteArray→Prop:=fun _ _ x s=>x=.string s
theorem zAH {w:World} {b g cap:Nat} {I:Inp} {nx op:Nat} (h:Rd w b g cap I.L I.len nx op) :
  Calls Tryz.prog 92 #[.pointer (some ⟨b,0,none⟩)] w fun e w'=>e=upE (Ps.refC I nx) (I.pk nx).place∧Below w.heap.size w w':=by
 have hp:=@xH _ _ _ _ _ _ _ _ h;unfold Ps.refC Inp.pk;obtain ⟨t,ht⟩:=nm (peekT I.L I.len nx);rw [←ht] at hp ⊢;unfold tokV at hp;clear ht;by_cases hk:t.kind=0
 ·rw [if_pos hk]
  rw [hk] at hp;go_enter Tryz.func92,Tryz.ntmps92;go_wp2_with fail;refine hp.mono ?_;rintro e w1 ⟨rfl,hb⟩;go_wp2_with fail;refine (jF _ _ _).mono ?_;rintro e w2 ⟨rfl,rfl⟩;exact ⟨rfl,rfl,hb.alloc hb.size _⟩
 ·rw [if_neg hk]
  have hkb:(t.kind==0)=false:=beq_eq_false_iff_ne.2 hk;go_enter Tryz.func92,Tryz.ntmps92;go_wp2_with fail;refine hp.mono ?_;rintro e w1 ⟨rfl,hb⟩;go_wp2_with fail;refine (jF _ _ _).mono ?_;rintro e w2 ⟨rfl,rfl⟩;exact ⟨rfl,rfl,hb.alloc hb.size _⟩
theorem jC {w:World} {b g cap:Nat} {I:Inp} {nx op:Nat} (h:Rd w b g cap I.L I.len nx op) (x y:Int) (hxy:y≤x) :
  Calls Tryz.prog 65 #[.pointer (some ⟨b,0,none⟩),.int .i64 x,.int .i64 y] w fun e w'=>e=upE 7 (I.pk nx).place∧Below w.heap.size w w':=by
 have hp:=@xH _ _ _ _ _ _ _ _ h;unfold Inp.pk;obtain ⟨t,ht⟩:=nm (peekT I.L I.len nx);rw [←ht] at hp ⊢;unfold tokV at hp;clear ht;have hf:=fun x w=>tokF1 t x w;go_enter Tryz.func65,Tryz.ntmps65;go_wp2_with fail;refine hp.mono ?_;rintro e w1 ⟨rfl,hb⟩;go_wp2_with fail;refine (jF _ _ _).mono ?_;rintro e w2 ⟨rfl,rfl⟩;exact ⟨rfl,rfl,hb⟩
theorem zS {w:World} {b g cap:Nat} {I:Inp} {nx op:Nat} (h:Rd w b g cap I.L I.len nx op) (s:ByteArray) (hs:s.data.toList≠[]) :
  Calls Tryz.prog 80 #[.pointer (some ⟨b,0,none⟩),.string s] w fun e w'=>e=.returned (.bool (Ps.sees I s.data.toList nx))∧Rd w' b g cap I.L I.len (if Ps.sees I s.data.toList nx=true then nx+1 else nx) op∧Aside [b] w.heap.size w w':=by
 cases hq:Ps.sees I s.data.toList nx with
 | true=>simpa using zBt h s hq (xW hq hs)
 | false=>
  refine (jQ h s hq).mono ?_;rintro e w' ⟨rfl,hb⟩;exact ⟨rfl,by simpa using h.below hb,aside hb⟩
theorem zM {w:World} {b g cap:Nat} {I:Inp} {nx op:Nat} (h:Rd w b g cap I.L I.len nx op) (s:ByteArray) (hs:s.data.toList≠[]) :
  Calls Tryz.prog 78 #[.pointer (some ⟨b,0,none⟩),.string s] w (Post b g cap I op noV nx w (Ps.need I s.data.toList nx)):=by
 unfold Ps.need
 cases hq:Ps.sees I s.data.toList nx with
 | true=>
  refine (qZ h s hq (xW hq hs)).mono ?_;rintro e w' ⟨rfl,h1,ha⟩;exact ⟨ha,Nat.le_succ _,h1,_,rfl,rfl⟩
 | false=>
  simp only [Bool.false_eq_true,if_false];have hp:=jQ h s hq;go_enter Tryz.func78,Tryz.ntmps78;go_wp2_with fail;refine hp.mono ?_;rintro e w1 ⟨rfl,hb⟩;go_wp2_with fail;refine (zAH (h.below hb)).mono ?_;rintro e w2 ⟨rfl,ha⟩;exact ⟨rfl,aside (hb.trans (ha.mono hb.size)),rfl⟩
theorem jM {w:World} {b g cap:Nat} {I:Inp} {nx op:Nat} (h:Rd w b g cap I.L I.len nx op) :
  Calls Tryz.prog 79 #[.pointer (some ⟨b,0,none⟩)] w (Post b g cap I op strV nx w (Ps.name I nx)):=by
 unfold Ps.name;by_cases hk:(I.pk nx).kind=2
 ·rw [if_pos hk]
  refine (zBu h hk (zCs (by rw [hk];decide))).mono ?_;rintro e w' ⟨rfl,h1,ha⟩;exact ⟨ha,Nat.le_succ _,h1,_,rfl,rfl⟩
 ·rw [if_neg hk]
  have hp:=@xH _ _ _ _ _ _ _ _ h;unfold Inp.pk at hk;obtain ⟨t,ht⟩:=nm (peekT I.L I.len nx);rw [←ht] at hp hk;unfold tokV at hp;have hkb:(t.kind==2)=false:=beq_eq_false_iff_ne.2 hk;clear ht;go_enter Tryz.func79,Tryz.ntmps79;go_wp2_with fail;refine hp.mono ?_;rintro e w1 ⟨rfl,hb⟩;go_wp2_with fail;refine (zAH ((h.below hb).alloc _)).mono ?_;rintro e w2 ⟨rfl,ha⟩;exact ⟨rfl,aside ((hb.alloc hb.size _).trans (ha.mono (by simp;exact Nat.le_trans hb.size (Nat.le_succ _)))),rfl⟩
def tmV:Nat→World→Value→Tm→Prop:=fun _ _ x t=>x=.agg #[.int .i64 t.1,.string t.2]
theorem Post.fail {α:Type} {b g cap:Nat} {I:Inp} {op:Nat} {V:Nat→World→Value→α→Prop} {nx:Nat} {w:World} {res:Res α} {w':World} {c a:Nat} (h:res=.err c a) (hA:Aside [b] w.heap.size w w'):Post b g cap I op V nx w res (upE c a) w':=by
 subst h;exact ⟨hA,rfl⟩
theorem Post.good {α:Type} {b g cap:Nat} {I:Inp} {op:Nat} {V:Nat→World→Value→α→Prop} {nx:Nat} {w:World} {res:Res α} {w':World} {v:α} {n1:Nat} {x:Value} (h:res=.ok v n1) (hA:Aside [b] w.heap.size w w') (hn:nx≤n1) (hR:Rd w' b g cap I.L I.len n1 op) (hV:V w.heap.size w' x v):Post b g cap I op V nx w res (.returned x) w':=by
 subst h;exact ⟨hA,hn,hR,x,rfl,hV⟩
theorem Post.aside {α:Type} {b g cap:Nat} {I:Inp} {op:Nat} {V:Nat→World→Value→α→Prop} {nx:Nat} {w:World} {res:Res α} {r:Ending} {w':World} (h:Post b g cap I op V nx w res r w'):Aside [b] w.heap.size w w':=h.1
theorem zDL {w:World} {b g cap:Nat} {I:Inp} {nx op:Nat} (h:Rd w b g cap I.L I.len nx op) (minus:Bool) :
  Calls Tryz.prog 101 #[.pointer (some ⟨b,0,none⟩),.bool minus] w (Post b g cap I op tmV nx w (Ps.term I minus nx)):=by
 have hb:=h.bb;have hg:=h.gb;obtain ⟨W,hW⟩:=nm ((w.alloc (.cells #[.int .i64 0,.string ⟨#[]⟩] 99 (0,0))).alloc (.cells #[.int .i64 1,.string ⟨#[]⟩] 99 (0,0)));have zW:W.heap.size=w.heap.size+1+1:=(by rw [hW];simp);have bW:Below w.heap.size w W:=(by rw [hW];exact ((Below.refl _ w).alloc nR _).alloc (by simp) _);have hA0:W.heap[w.heap.size]?=some (.cells #[.int .i64 0,.string ⟨#[]⟩] 99 (0,0)):=(by rw [hW];exact kA (zF w _) _);have hT0:W.heap[w.heap.size+1]?=some (.cells #[.int .i64 1,.string ⟨#[]⟩] 99 (0,0)):=by
  have:=zF (w.alloc (.cells #[.int .i64 0,.string ⟨#[]⟩] 99 (0,0))) (.cells #[.int .i64 1,.string ⟨#[]⟩] 99 (0,0));have e:(w.alloc (.cells #[.int .i64 0,.string ⟨#[]⟩] 99 (0,0))).heap.size=w.heap.size+1:=(by simp);rw [e] at this;rw [hW];exact this
 have hRW:Rd W b g cap I.L I.len nx op:=h.below bW;have hp:=@xH _ _ _ _ _ _ _ _ hRW;obtain ⟨t,ht⟩:=nm (I.pk nx);have hpk:peekT I.L I.len nx=t:=ht.symm;rw [hpk] at hp;unfold tokV at hp;have HT:=zD ht;clear hpk ht;by_cases hk:t.kind=3
 ·have hlt:nx<I.L.length:=zCs (by rw [←HT.out,hk];decide)
  rw [hk] at hp;go_enter Tryz.func101,Tryz.ntmps101;go_wp2_with fail;rw [←hW];refine hp.mono ?_;rintro e w1 ⟨rfl,b1⟩;have z1:=b1.size;go_wp2_with fail;refine (qS ((hRW.below b1).alloc _) hlt).mono ?_;rintro e w2 ⟨rfl,h2,a2⟩;have z2:w1.heap.size+1≤w2.heap.size:=(by simpa using a2.size);have hN2:=a2.keep (zF w1 _) (by simp) (by simp;omega);have hA2:=a2.keep (kA ((aside b1 (S:=[])).keep hA0 (zC hA0) (by simp)) _) (by simp;omega) (by simp;omega);have hT2:=a2.keep (kA ((aside b1 (S:=[])).keep hT0 (zC hT0) (by simp)) _) (by simp;omega) (by simp;omega);have S2:Aside [b] w.heap.size w w2:=(aside ((bW.trans (b1.mono (by omega))).alloc (by omega) _)).trans a2 (by simp;omega);have n3:=co hN2 3;have t0:=co hT2 0;have f0:=fo hT2 0;simp at n3 t0;go_wp2_with fail;have hT:=zJ hT2 0 (.int .i64 t.n);have hA:=zK hA2 (p:=⟨w.heap.size+1,0,none⟩) (by simp) (.int .i64 t.n);have hR:=h2.set (p:=⟨w.heap.size+1,0,none⟩) (by simp;omega) (by simp;omega) (.int .i64 t.n);have hS:=S2.set (p:=⟨w.heap.size+1,0,none⟩) (by simp) (.int .i64 t.n);simp at hT;have z3:(w2.setCell ⟨w.heap.size+1,0,none⟩ (.int .i64 t.n)).heap.size=w2.heap.size:=(by simp [World.setCell]);generalize w2.setCell ⟨w.heap.size+1,0,none⟩ (.int .i64 t.n)=w3 at hT hA hR hS z3 ⊢;clear hN2 hA2 hT2 S2 h2 a2 n3 t0 f0 hA0 hT0;refine (zS hR ⟨#[42]⟩ (by decide)).mono ?_;rintro e w4 ⟨rfl,h4,a4⟩;have z4:=a4.size;have hA4:=a4.keep hA (by omega) (by simp;omega);have hT4:=a4.keep hT (by omega) (by simp;omega);have hS4:=hS.trans a4 (by omega);clear hA hT hS hR;have es:(⟨#[42]⟩:ByteArray).data.toList=[42]:=rfl;rw [es] at h4;simp only [es];clear es
  cases hq:Ps.sees I [42] (nx+1) with
  | false=>
   rw [hq] at h4;simp only [Bool.false_eq_true,if_false] at h4;have hA:=hA4;have hT:=hT4;have hR:=h4;have hS:=hS4;clear hA4 hT4 h4 hS4
   cases minus
   ·have t0:=co hT 0
    have t1:=co hT 1;have c0:=co hA 0;have c1:=co hA 1;have fA:=fun o=>fo hA o;have fT:=fun o=>fo hT o;simp at t0 t1 c0 c1;go_wp2;refine bodyPost_ret (v:=.agg #[.int .i64 (t.n),.string (⟨#[]⟩:ByteArray)]) (by simp [results,Tryz.results101,go_sem,c0,c1]) rfl ?_;exact Post.good (v:=(t.n,(⟨#[]⟩:ByteArray))) (by unfold Ps.term;rw [←HT.out,if_pos hk,hq];simp [Ps.sg]) (((hS).set (by simp) _).set (by simp) _) (by omega) (((hR).set (by simp;omega) (by simp;omega) _).set (by simp;omega) (by simp;omega) _) rfl
   ·have t0:=co hT 0
    have t1:=co hT 1;have c0:=co hA 0;have c1:=co hA 1;have fA:=fun o=>fo hA o;have fT:=fun o=>fo hT o;simp at t0 t1 c0 c1;go_wp2;refine bodyPost_ret (v:=.agg #[.int .i64 (wrap64 (-(t.n))),.string (⟨#[]⟩:ByteArray)]) (by simp [results,Tryz.results101,go_sem,c0,c1]) rfl ?_;exact Post.good (v:=(wrap64 (-(t.n)),(⟨#[]⟩:ByteArray))) (by unfold Ps.term;rw [←HT.out,if_pos hk,hq];simp [Ps.sg]) ((((hS).set (by simp) _).set (by simp) _).set (by simp) _) (by omega) ((((hR).set (by simp;omega) (by simp;omega) _).set (by simp;omega) (by simp;omega) _).set (by simp;omega) (by simp;omega) _) rfl
  | true=>
   rw [hq] at h4;simp only [if_true] at h4;go_wp2_with fail;refine (jM h4).mono ?_;rintro e w5 ⟨a5,hres⟩;have hS:=hS4.trans a5 (by omega);have z5:=a5.size;have hA:=a5.keep hA4 (by omega) (by simp;omega);have hT5:=a5.keep hT4 (by omega) (by simp;omega);clear hA4 hT4 hS4 h4
   cases hn:Ps.name I (nx+1+1) with
   | err c a=>
    rw [hn] at hres;obtain rfl:e=_:=hres;exact ⟨rfl,Post.fail (by unfold Ps.term;rw [←HT.out,if_pos hk,hq];simp [hn,Res.bind]) hS⟩
   | ok s n1=>
    rw [hn] at hres;obtain ⟨le5,hR5,_,rfl,rfl⟩:=hres;have hT:=hT5;have hR:=hR5;clear hT5 hR5
    cases minus
    ·have t0:=co hT 0
     have t1:=co hT 1;have c0:=co hA 0;have c1:=co hA 1;have fA:=fun o=>fo hA o;have fT:=fun o=>fo hT o;simp at t0 t1 c0 c1;go_wp2;refine bodyPost_ret (v:=.agg #[.int .i64 (t.n),.string s]) (by simp [results,Tryz.results101,go_sem,c0,c1]) rfl ?_;exact Post.good (v:=(t.n,s)) (by unfold Ps.term;rw [←HT.out,if_pos hk,hq];simp [Ps.sg,hn,Res.bind]) ((((hS).set (by simp) _).set (by simp) _).set (by simp) _) (by omega) ((((hR).set (by simp;omega) (by simp;omega) _).set (by simp;omega) (by simp;omega) _).set (by simp;omega) (by simp;omega) _) rfl
    ·have t0:=co hT 0
     have t1:=co hT 1;have c0:=co hA 0;have c1:=co hA 1;have fA:=fun o=>fo hA o;have fT:=fun o=>fo hT o;simp at t0 t1 c0 c1;go_wp2;refine bodyPost_ret (v:=.agg #[.int .i64 (wrap64 (-(t.n))),.string s]) (by simp [results,Tryz.results101,go_sem,c0,c1]) rfl ?_;exact Post.good (v:=(wrap64 (-(t.n)),s)) (by unfold Ps.term;rw [←HT.out,if_pos hk,hq];simp [Ps.sg,hn,Res.bind]) (((((hS).set (by simp) _).set (by simp) _).set (by simp) _).set (by simp) _) (by omega) (((((hR).set (by simp;omega) (by simp;omega) _).set (by simp;omega) (by simp;omega) _).set (by simp;omega) (by simp;omega) _).set (by simp;omega) (by simp;omega) _) rfl
 ·have hkb:(t.kind==3)=false:=beq_eq_false_iff_ne.2 hk
  go_enter Tryz.func101,Tryz.ntmps101;go_wp2_with fail;rw [←hW];refine hp.mono ?_;rintro e w1 ⟨rfl,b1⟩;have z1:=b1.size;go_wp2_with fail;refine (jM ((hRW.below b1).alloc _)).mono ?_;rintro e w5 ⟨a5,hres⟩;have z5:w1.heap.size+1≤w5.heap.size:=(by simpa using a5.size);have hA:=a5.keep (kA ((aside b1 (S:=[])).keep hA0 (zC hA0) (by simp)) _) (by simp;omega) (by simp;omega);have hT5:=a5.keep (kA ((aside b1 (S:=[])).keep hT0 (zC hT0) (by simp)) _) (by simp;omega) (by simp;omega);have hS:Aside [b] w.heap.size w w5:=(aside ((bW.trans (b1.mono (by omega))).alloc (by omega) _)).trans a5 (by simp;omega)
  cases hn:Ps.name I nx with
  | err c a=>
   rw [hn] at hres;obtain rfl:e=_:=hres;exact ⟨rfl,Post.fail (by unfold Ps.term;rw [←HT.out,if_neg hk];simp [hn,Res.bind]) hS⟩
  | ok s n1=>
   rw [hn] at hres;obtain ⟨le5,hR5,_,rfl,rfl⟩:=hres;have hT:=hT5;have hR:=hR5;clear hT5 hR5
   cases minus
   ·have t0:=co hT 0
    have t1:=co hT 1;have c0:=co hA 0;have c1:=co hA 1;have fA:=fun o=>fo hA o;have fT:=fun o=>fo hT o;simp at t0 t1 c0 c1;go_wp2;refine bodyPost_ret (v:=.agg #[.int .i64 (1),.string s]) (by simp [results,Tryz.results101,go_sem,c0,c1]) rfl ?_;exact Post.good (v:=(1,s)) (by unfold Ps.term;rw [←HT.out,if_neg hk];simp [Ps.sg,hn,Res.bind]) ((((hS).set (by simp) _).set (by simp) _).set (by simp) _) (by omega) ((((hR).set (by simp;omega) (by simp;omega) _).set (by simp;omega) (by simp;omega) _).set (by simp;omega) (by simp;omega) _) rfl
   ·have t0:=co hT 0
    have t1:=co hT 1;have c0:=co hA 0;have c1:=co hA 1;have fA:=fun o=>fo hA o;have fT:=fun o=>fo hT o;simp at t0 t1 c0 c1;go_wp2;refine bodyPost_ret (v:=.agg #[.int .i64 (-1),.string s]) (by simp [results,Tryz.results101,go_sem,c0,c1]) rfl ?_;exact Post.good (v:=(-1,s)) (by unfold Ps.term;rw [←HT.out,if_neg hk];simp [Ps.sg,hn,Res.bind];unfold wrap64;omega) (((((hS).set (by simp) _).set (by simp) _).set (by simp) _).set (by simp) _) (by omega) (((((hR).set (by simp;omega) (by simp;omega) _).set (by simp;omega) (by simp;omega) _).set (by simp;omega) (by simp;omega) _).set (by simp;omega) (by simp;omega) _) rfl
def szV:Nat→World→Value→List Tm→Prop:=fun B w x l=>HTerms (fun i=>B≤i) w x l
theorem zBH {w:World} {b g cap:Nat} {I:Inp} {nx op:Nat} (h:Rd w b g cap I.L I.len nx op) (s:ByteArray) :
  Calls Tryz.prog 64 #[.pointer (some ⟨b,0,none⟩),.string s] w fun e w'=>e=.returned (.bool (Ps.sees I s.data.toList nx))∧Below w.heap.size w w':=jJ h s
theorem Rd.under {w w':World} {b g cap:Nat} {L:List Tk.Tok} {len nx op B:Nat} (h:Rd w b g cap L len nx op) (hb:Below B w w') (h1:b<B) (h2:g<B):Rd w' b g cap L len nx op :=
 ⟨(hb.block b h1).trans h.here,h.toks.keep (hb.block g h2),h.apart,Nat.lt_of_lt_of_le h.gb hb.size,h.le,h.lc,h.cm⟩
theorem terms_stop {I:Inp} {n:Nat} (hp:Ps.sees I [43] n=false) (hq:Ps.sees I [45] n=false):∀ (k:Nat) (acc:List Tm),Ps.terms I k acc n=.ok acc n
 | 0,_=>by simp [Ps.terms,hp,hq]
 | _+1,_=>by simp [Ps.terms,hp,hq]
theorem zDT {I:Inp} {n:Nat} (hp:Ps.sees I [43] n=true∨Ps.sees I [45] n=true) (acc:List Tm):Ps.terms I 0 acc n=.err 7 (I.pk n).place:=by simp [Ps.terms,hp]
theorem zDU {I:Inp} {n:Nat} (hp:Ps.sees I [43] n=true∨Ps.sees I [45] n=true) (f:Nat) (acc:List Tm):Ps.terms I (f+1) acc n=(Ps.term I (Ps.sees I [45] n) (n+1)).bind fun t n1=>Ps.terms I f (acc++[t]) n1:=by simp [Ps.terms,hp]
theorem zBI {w:World} {b g cap:Nat} {I:Inp} {nx op:Nat} (h:Rd w b g cap I.L I.len nx op) :
  Calls Tryz.prog 94 #[.pointer (some ⟨b,0,none⟩)] w (Post b g cap I op szV nx w (Ps.size I nx)):=by
 have hb:=h.bb;have hg:=h.gb;go_enter Tryz.func94,Tryz.ntmps94;go_wp2_with fail;refine (zS h ⟨#[45]⟩ (by decide)).mono ?_;rintro e w1 ⟨rfl,h1,a1⟩;have es:(⟨#[45]⟩:ByteArray).data.toList=[45]:=rfl;rw [es] at h1;simp only [es];clear es;obtain ⟨m,hm⟩:=nm (Ps.sees I [45] nx);rw [←hm] at h1 ⊢;obtain ⟨n0,hn0⟩:=nm (if m=true then nx+1 else nx);rw [←hn0] at h1;have hle0:nx≤n0:=by rw [hn0];split<;>omega
 have HM:=zD hm;have HN0:=zD hn0;have hmodel:Hid (Ps.size I nx=(Ps.term I m n0).bind fun t n1=>Ps.terms I 29 [t] n1):=by
  show Ps.size I nx=_
  unfold Ps.size;rw [←HM.out,←HN0.out]
 clear hm hn0;have z1:=a1.size;go_wp2_with fail;refine (zDL h1 m).mono ?_;rintro e w2 ⟨a2,hres⟩;have z2:=a2.size;have A2:=a1.trans a2 z1
 cases ht:Ps.term I m n0 with
 | err c a=>
  rw [ht] at hres;obtain rfl:e=_:=hres;exact ⟨rfl,Post.fail (by rw [hmodel.out,ht];rfl) A2⟩
 | ok t n1=>
  rw [ht] at hres;obtain ⟨le2,h2,_,rfl,rfl⟩:=hres;have hmodel2:Hid (Ps.size I nx=Ps.terms I 29 [t] n1):=by
   show Ps.size I nx=_
   rw [hmodel.out,ht];rfl
  have hlit:OwnL kTerm w.heap.size (w2.alloc (.cells #[.int .i64 t.1,.string t.2] 99 (0,0))) (.slice (some ⟨w2.heap.size,0,none⟩) 1 1) [t]:=OwnL.lit (T:=kTerm) (cs:=[.int .i64 t.1,.string t.2]) (by omega) rfl;have A3:=A2.alloc (by omega) (.cells #[.int .i64 t.1,.string t.2] 99 (0,0));have h3:=h2.alloc (.cells #[.int .i64 t.1,.string t.2] 99 (0,0));clear hmodel a1 a2 h1 A2 h2 ht;go_wp2;go_loopg [3,4] 29 (fun k v3 v4 wr=>∃ (n:Nat) (acc:List Tm) (m3:Bool),k+acc.length=30∧v3=.bool m3∧OwnL kTerm w.heap.size wr v4 acc∧Rd wr b g cap I.L I.len n op∧Aside [b] w.heap.size w wr∧nx≤n∧Hid (Ps.size I nx=Ps.terms I k acc n))
  case atStart=>exact ⟨n1,[t],m,rfl,rfl,hlit,h3,A3,by omega,hmodel2⟩
  case round=>
   obtain ⟨n,acc,m3,hk,rfl,hown,hr,hA,hle,hmod⟩:=hrel;obtain ⟨aa,cc,rfl,hc1,hc2⟩:=hown.form;unfold maxLen at hc2;have zr:=hA.size;go_wp2_with fail;refine (zBH hr ⟨#[43]⟩).mono ?_;rintro e w4 ⟨rfl,b4⟩;have es:(⟨#[43]⟩:ByteArray).data.toList=[43]:=rfl;simp only [es];clear es;have h4:=hr.below b4;have A4:=hA.trans (aside b4) hA.size;have own4:=hown.below b4
   cases hp:Ps.sees I [43] n with
   | true=>
    clear hr hA hown;have hcond:Ps.sees I [43] n=true∨Ps.sees I [45] n=true:=.inl hp;have hlt:n<I.L.length:=by rcases hcond with q | q<;>exact xW q (by simp)
    by_cases hz:gk=0
    ·subst hz
     go_wp2_with fail;refine (jC h4 _ _ (by omega)).mono ?_;rintro e w5 ⟨rfl,b5⟩;exact ⟨rfl,Post.fail (by rw [hmod.out];exact zDT hcond acc) (A4.trans (aside b5) A4.size)⟩
    ·obtain ⟨f,rfl⟩:∃ f,gk=f+1:=⟨gk-1,by omega⟩
     have hstep:=zD (hmod.out.trans (zDU hcond f acc));go_wp2_with fail;refine (qF _ _ _ (by omega) _).mono ?_;rintro e w5 ⟨rfl,rfl⟩;go_wp2_with fail;refine (zBH h4 ⟨#[45]⟩).mono ?_;rintro e w5 ⟨rfl,b5⟩;have es:(⟨#[45]⟩:ByteArray).data.toList=[45]:=rfl;simp only [es];clear es;obtain ⟨mm,hmm⟩:=nm (Ps.sees I [45] n);rw [←hmm] at hstep ⊢;clear hmm;have h5:=h4.below b5;have A5:=A4.trans (aside b5) A4.size;have own5:=own4.below b5;go_wp2_with fail;refine (qS h5 hlt).mono ?_;rintro e w6 ⟨rfl,h6,a6⟩;have A6:=A5.trans a6 A5.size;have own6:=own5.past a6 (by simp;omega);go_wp2_with fail;refine (zDL h6 mm).mono ?_;rintro e w7 ⟨a7,hres⟩;have A7:=A6.trans a7 A6.size;have own7:=own6.past a7 (by simp;omega);have z7:=A7.size
     cases ht:Ps.term I mm (n+1) with
     | err c a=>
      rw [ht] at hres;obtain rfl:e=_:=hres;exact ⟨rfl,Post.fail (by rw [hstep.out,ht];rfl) A7⟩
     | ok t2 n2=>
      rw [ht] at hres;obtain ⟨le7,h7,_,rfl,rfl⟩:=hres;have hmod2:Hid (Ps.size I nx=Ps.terms I f (acc++[t2]) n2):=by
       show Ps.size I nx=_
       rw [hstep.out,ht];rfl
      have hNb:=fun k hk=>(own7.lt k hk).2;clear hstep hmod ht a6 a7 b5 h5 h6 own5 own6 A5 A6 own4 h4 A4;have q1:kTerm.E (fun i=>w7.heap.size≤i) w7 [.int .i64 t2.1,.string t2.2] t2:=rfl;have q2:(acc.length+1)*kTerm.bytes≤140737488355328:=(by show (acc.length+1)*24≤_;omega);have q3:acc.length+1≤maxLen:=(by unfold maxLen;omega)
      go_wp2_with (at_builtin;refine xD kTerm rfl _ _ 90 99 rfl Tryz.underlying90 w.heap.size w7.heap.size _ acc (by rfl) own7 [.int .i64 t2.1,.string t2.2] t2 q1 (by rfl) hNb z7 z7 q2 q3 ?_;intro v8 w8 own8 b8 _ _)
      go_wp2;go_roundg f
      case measure=>omega
      case rel=>exact ⟨n2,acc++[t2],mm,by simp;omega,rfl,own8,(h7.under b8 (by omega) (by omega)),A7.trans (aside b8) nR,by omega,hmod2⟩
   | false=>
    go_wp2_with fail;refine (zBH h4 ⟨#[45]⟩).mono ?_;rintro e w9 ⟨rfl,b9⟩;have es:(⟨#[45]⟩:ByteArray).data.toList=[45]:=rfl;simp only [es];clear es;have h9:=h4.below b9;have A9:=A4.trans (aside b9) A4.size;have own9:=own4.below b9;clear hr hA hown h4 A4 own4
    cases hq:Ps.sees I [45] n with
    | true=>
     have hcond:Ps.sees I [43] n=true∨Ps.sees I [45] n=true:=.inr hq;have hlt:n<I.L.length:=by rcases hcond with q | q<;>exact xW q (by simp)
     by_cases hz:gk=0
     ·subst hz
      go_wp2_with fail;refine (jC h9 _ _ (by omega)).mono ?_;rintro e w5 ⟨rfl,b5⟩;exact ⟨rfl,Post.fail (by rw [hmod.out];exact zDT hcond acc) (A9.trans (aside b5) A9.size)⟩
     ·obtain ⟨f,rfl⟩:∃ f,gk=f+1:=⟨gk-1,by omega⟩
      have hstep:=zD (hmod.out.trans (zDU hcond f acc));go_wp2_with fail;refine (qF _ _ _ (by omega) _).mono ?_;rintro e w5 ⟨rfl,rfl⟩;go_wp2_with fail;refine (zBH h9 ⟨#[45]⟩).mono ?_;rintro e w5 ⟨rfl,b5⟩;have es:(⟨#[45]⟩:ByteArray).data.toList=[45]:=rfl;simp only [es];clear es;obtain ⟨mm,hmm⟩:=nm (Ps.sees I [45] n);rw [←hmm] at hstep ⊢;clear hmm;have h5:=h9.below b5;have A5:=A9.trans (aside b5) A9.size;have own5:=own9.below b5;go_wp2_with fail;refine (qS h5 hlt).mono ?_;rintro e w6 ⟨rfl,h6,a6⟩;have A6:=A5.trans a6 A5.size;have own6:=own5.past a6 (by simp;omega);go_wp2_with fail;refine (zDL h6 mm).mono ?_;rintro e w7 ⟨a7,hres⟩;have A7:=A6.trans a7 A6.size;have own7:=own6.past a7 (by simp;omega);have z7:=A7.size
      cases ht:Ps.term I mm (n+1) with
      | err c a=>
       rw [ht] at hres;obtain rfl:e=_:=hres;exact ⟨rfl,Post.fail (by rw [hstep.out,ht];rfl) A7⟩
      | ok t2 n2=>
       rw [ht] at hres;obtain ⟨le7,h7,_,rfl,rfl⟩:=hres;have hmod2:Hid (Ps.size I nx=Ps.terms I f (acc++[t2]) n2):=by
        show Ps.size I nx=_
        rw [hstep.out,ht];rfl
       have hNb:=fun k hk=>(own7.lt k hk).2;clear hstep hmod ht a6 a7 b5 h5 h6 own5 own6 A5 A6 own9 h9 A9;have q1:kTerm.E (fun i=>w7.heap.size≤i) w7 [.int .i64 t2.1,.string t2.2] t2:=rfl;have q2:(acc.length+1)*kTerm.bytes≤140737488355328:=(by show (acc.length+1)*24≤_;omega);have q3:acc.length+1≤maxLen:=(by unfold maxLen;omega)
       go_wp2_with (at_builtin;refine xD kTerm rfl _ _ 90 99 rfl Tryz.underlying90 w.heap.size w7.heap.size _ acc (by rfl) own7 [.int .i64 t2.1,.string t2.2] t2 q1 (by rfl) hNb z7 z7 q2 q3 ?_;intro v8 w8 own8 b8 _ _)
       go_wp2;go_roundg f
       case measure=>omega
       case rel=>exact ⟨n2,acc++[t2],mm,by simp;omega,rfl,own8,(h7.under b8 (by omega) (by omega)),A7.trans (aside b8) nR,by omega,hmod2⟩
    | false=>
     go_wp2;go_ret;exact Post.good (by rw [hmod.out];exact terms_stop hp hq gk acc) A9 hle h9 (zBU own9.row)
def dcV:Nat→World→Value→De→Prop:=fun B w x d=>∃ a n c,x=.agg #[.string d.name,.int .u8 d.elem,.slice a n c]∧HTerms (fun i=>B≤i) w (.slice a n c) d.n
def exV:Nat→World→Value→Ex→Prop:=fun B w x e=>∃ y:ExV,x=.agg #[.int .i64 y.op,.int .i64 y.k,.int .i64 y.n,.string y.name,.slice y.aS y.nS y.cS,.slice y.aL y.nL y.cL]∧HEx (fun i=>B≤i) w y.cells e
def rowV {α:Type} (T:Kind α):Nat→World→Value→List α→Prop:=fun B w x l=>HRow T (fun i=>B≤i) w x l
def GlobT (w:World):Prop:=1<w.heap.size∧∀ j (h:j<Ps.words.length),w.cell? ⟨1,j,none⟩=some (.string (str Ps.words[j]))
def GlobB (b:Nat) (w:World):Prop:=b≠1∧GlobT w
theorem GlobT.keep {w w':World} (h:GlobT w) (hs:w.heap.size≤w'.heap.size) (hb:w'.heap[1]?=w.heap[1]?):GlobT w' :=
 ⟨Nat.lt_of_lt_of_le h.1 hs,fun j hj=>(World.cell?_of_block (w:=w) (a:=⟨1,j,none⟩) hb).trans (h.2 j hj)⟩
theorem GlobB.one {b:Nat} {w:World} (h:GlobB b w):1<w.heap.size:=h.2.1
theorem GlobB.far {b:Nat} {w w':World} (h:GlobB b w) (a:Aside [b] w.heap.size w w'):GlobB b w':=⟨h.1,h.2.keep a.size (a.block 1 h.one (by simp;exact fun e=>h.1 e.symm))⟩
theorem GlobB.far2 {b nb N0:Nat} {w w':World} (h:GlobB b w) (a:Aside [b,nb] N0 w w') (hn:1<nb) (hN:nb<N0):GlobB b w':=⟨h.1,h.2.keep a.size (a.block 1 (by omega) (by simp;exact ⟨fun e=>h.1 e.symm,by omega⟩))⟩
theorem GlobB.alloc {b:Nat} {w:World} (h:GlobB b w) (o:Obj):GlobB b (w.alloc o):=⟨h.1,h.2.keep (by simp) (Below.heap_alloc _ _ _ h.one)⟩
def Does {α:Type} (F b g cap:Nat) (I:Inp) (op:Nat) (V:Nat→World→Value→α→Prop) (R:Nat→Res α):Prop :=
 ∀ (n:Nat) (w:World),Rd w b g cap I.L I.len n op→GlobB b w→Calls Tryz.prog F #[.pointer (some ⟨b,0,none⟩)] w (Post b g cap I op V n w (R n))
theorem jA {α:Type} {I:Inp} {R:Nat→Res α} {f:Nat} {acc:List α} {n:Nat}:Ps.row I R (f+1) acc n=(R n).bind fun v n1=>if Ps.sees I [44] n1=true then Ps.row I R f (acc++[v]) (n1+1) else .ok (acc++[v]) n1:=rfl
theorem zCl {w:World} {b g cap:Nat} {I:Inp} {nx op:Nat} {R:Nat→Res ByteArray} (HR:Does 79 b g cap I op strV R) (h:Rd w b g cap I.L I.len nx op) (hG:GlobB b w) (most:Nat) (hmost:most≤1000) :
  Calls Tryz.prog 81 #[.pointer (some ⟨b,0,none⟩),.int .i64 most,.func (.func 79) #[.pointer (some ⟨b,0,none⟩)] #[]] w (Post b g cap I op (rowV kName) nx w (Ps.row I R most [] nx)):=by
 have hb:=h.bb;have hg:=h.gb;go_enter Tryz.func81,Tryz.ntmps81;go_wp2;go_loopg [7] most (fun k v wr=>∃ (n:Nat) (acc:List ByteArray),k+acc.length=most∧OwnL kName w.heap.size wr v acc∧Rd wr b g cap I.L I.len n op∧Aside [b] w.heap.size w wr∧nx≤n∧Hid (Ps.row I R most [] nx=Ps.row I R k acc n))
 case atStart=>exact ⟨nx,[],rfl,OwnL.nil,h,Aside.refl _,Nat.le_refl _,rfl⟩
 case round=>
  obtain ⟨n,acc,hk,hown,hr,hA,hle,hmod⟩:=hrel;obtain ⟨aa,cc,rfl,hc1,hc2⟩:=hown.form;unfold maxLen at hc2;have zr:=hA.size;by_cases hz:gk=0
  ·subst hz
   go_wp2_with fail;refine (jC hr _ _ (by omega)).mono ?_;rintro e w5 ⟨rfl,b5⟩;exact ⟨rfl,Post.fail (by rw [hmod.out];rfl) (hA.trans (aside b5) hA.size)⟩
  ·obtain ⟨f,rfl⟩:∃ f,gk=f+1:=⟨gk-1,by omega⟩
   go_wp2_with fail;refine (qF _ _ _ (by omega) _).mono ?_;rintro e wr ⟨rfl,rfl⟩;go_wp2_with fail;refine (HR n _ hr (hG.far hA)).mono ?_;rintro e w7 ⟨a7,hres⟩;have A7:=hA.trans a7 zr;have own7:=hown.past a7 (by simp;omega);have z7:=A7.size;have y7:=a7.size
   cases ht:R n with
   | err c a=>
    rw [ht] at hres;obtain rfl:e=_:=hres;exact ⟨rfl,Post.fail (by rw [hmod.out,jA,ht];rfl) A7⟩
   | ok y n1=>
    rw [ht] at hres;obtain ⟨le7,h7,x7,rfl,hV⟩:=hres;obtain rfl:x7=_:=hV;have hmod2:Hid (Ps.row I R most [] nx=if Ps.sees I [44] n1=true then Ps.row I R f (acc++[y]) (n1+1) else .ok (acc++[y]) n1):=by
     show Ps.row I R most [] nx=_
     rw [hmod.out,jA,ht];rfl
    have hNb:=fun k hk=>(hown.lt k hk).2;have q1:kName.E (fun i=>wr.heap.size≤i) w7 [.string y] y:=rfl;have q2:(acc.length+1)*kName.bytes≤140737488355328:=(by show (acc.length+1)*16≤_;omega);have q3:acc.length+1≤maxLen:=(by unfold maxLen;omega);clear hmod ht a7 hown hr hA HR
    go_wp2_with (at_builtin;refine xD kName rfl _ _ 35 9 rfl Tryz.underlying35 w.heap.size wr.heap.size _ acc (by rfl) own7 [.string y] y q1 (by rfl) hNb zr z7 q2 q3 ?_;intro v8 w8 own8 b8 _ _)
    have h8:=h7.under b8 (by omega) (by omega);have A8:=A7.trans (aside b8) nR;refine (zS h8 ⟨#[44]⟩ (by decide)).mono ?_;rintro e w9 ⟨rfl,h9,a9⟩;have es:(⟨#[44]⟩:ByteArray).data.toList=[44]:=rfl;rw [es] at h9;simp only [es];clear es;have A9:=A8.trans a9 A8.size;have own9:=own8.past a9 (by simp;omega);clear A8 a9 own8 h8 own7 h7 b8 A7 hNb q1
    cases hq:Ps.sees I [44] n1 with
    | true=>
     rw [hq] at h9 hmod2;go_wp2;go_roundg f
     case measure=>omega
     case rel=>exact ⟨n1+1,acc++[y],by simp;omega,own9,by simpa using h9,A9,by omega,zD (by simpa using hmod2.out)⟩
    | false=>
     rw [hq] at h9 hmod2;obtain ⟨a10,c10,rfl,_,_⟩:=own9.form;go_wp2;go_ret;exact Post.good (by rw [hmod2.out];rfl) A9 (by omega) (by simpa using h9) own9.row
theorem vW {w:World} {b g cap:Nat} {I:Inp} {nx op:Nat} {R:Nat→Res De} (HR:Does 83 b g cap I op dcV R) (h:Rd w b g cap I.L I.len nx op) (hG:GlobB b w) (most:Nat) (hmost:most≤1000) :
  Calls Tryz.prog 82 #[.pointer (some ⟨b,0,none⟩),.int .i64 most,.func (.func 83) #[.pointer (some ⟨b,0,none⟩)] #[]] w (Post b g cap I op (rowV kDecl) nx w (Ps.row I R most [] nx)):=by
 have hb:=h.bb;have hg:=h.gb;go_enter Tryz.func82,Tryz.ntmps82;go_wp2;go_loopg [7] most (fun k v wr=>∃ (n:Nat) (acc:List De),k+acc.length=most∧OwnL kDecl w.heap.size wr v acc∧Rd wr b g cap I.L I.len n op∧Aside [b] w.heap.size w wr∧nx≤n∧Hid (Ps.row I R most [] nx=Ps.row I R k acc n))
 case atStart=>exact ⟨nx,[],rfl,OwnL.nil,h,Aside.refl _,Nat.le_refl _,rfl⟩
 case round=>
  obtain ⟨n,acc,hk,hown,hr,hA,hle,hmod⟩:=hrel;obtain ⟨aa,cc,rfl,hc1,hc2⟩:=hown.form;unfold maxLen at hc2;have zr:=hA.size;by_cases hz:gk=0
  ·subst hz
   go_wp2_with fail;refine (jC hr _ _ (by omega)).mono ?_;rintro e w5 ⟨rfl,b5⟩;exact ⟨rfl,Post.fail (by rw [hmod.out];rfl) (hA.trans (aside b5) hA.size)⟩
  ·obtain ⟨f,rfl⟩:∃ f,gk=f+1:=⟨gk-1,by omega⟩
   go_wp2_with fail;refine (qF _ _ _ (by omega) _).mono ?_;rintro e wr ⟨rfl,rfl⟩;go_wp2_with fail;refine (HR n _ hr (hG.far hA)).mono ?_;rintro e w7 ⟨a7,hres⟩;have A7:=hA.trans a7 zr;have own7:=hown.past a7 (by simp;omega);have z7:=A7.size;have y7:=a7.size
   cases ht:R n with
   | err c a=>
    rw [ht] at hres;obtain rfl:e=_:=hres;exact ⟨rfl,Post.fail (by rw [hmod.out,jA,ht];rfl) A7⟩
   | ok y n1=>
    rw [ht] at hres;obtain ⟨le7,h7,x7,rfl,hV⟩:=hres;obtain ⟨ad,nd,cd,rfl,hT⟩:=hV;have hmod2:Hid (Ps.row I R most [] nx=if Ps.sees I [44] n1=true then Ps.row I R f (acc++[y]) (n1+1) else .ok (acc++[y]) n1):=by
     show Ps.row I R most [] nx=_
     rw [hmod.out,jA,ht];rfl
    have hNb:=fun k hk=>(hown.lt k hk).2;have q1:kDecl.E (fun i=>wr.heap.size≤i) w7 [.string y.name,.int .u8 y.elem,.slice ad nd cd] y:=⟨_,rfl,hT⟩;have q2:(acc.length+1)*kDecl.bytes≤140737488355328:=(by show (acc.length+1)*48≤_;omega);have q3:acc.length+1≤maxLen:=(by unfold maxLen;omega);clear hmod ht a7 hown hr hA HR
    go_wp2_with (at_builtin;refine xD kDecl rfl _ _ 36 94 rfl Tryz.underlying36 w.heap.size wr.heap.size _ acc (by rfl) own7 [.string y.name,.int .u8 y.elem,.slice ad nd cd] y q1 (by rfl) hNb zr z7 q2 q3 ?_;intro v8 w8 own8 b8 _ _)
    have h8:=h7.under b8 (by omega) (by omega);have A8:=A7.trans (aside b8) nR;refine (zS h8 ⟨#[44]⟩ (by decide)).mono ?_;rintro e w9 ⟨rfl,h9,a9⟩;have es:(⟨#[44]⟩:ByteArray).data.toList=[44]:=rfl;rw [es] at h9;simp only [es];clear es;have A9:=A8.trans a9 A8.size;have own9:=own8.past a9 (by simp;omega);clear A8 a9 own8 h8 own7 h7 b8 A7 hNb q1
    cases hq:Ps.sees I [44] n1 with
    | true=>
     rw [hq] at h9 hmod2;go_wp2;go_roundg f
     case measure=>omega
     case rel=>exact ⟨n1+1,acc++[y],by simp;omega,own9,by simpa using h9,A9,by omega,zD (by simpa using hmod2.out)⟩
    | false=>
     rw [hq] at h9 hmod2;obtain ⟨a10,c10,rfl,_,_⟩:=own9.form;go_wp2;go_ret;exact Post.good (by rw [hmod2.out];rfl) A9 (by omega) (by simpa using h9) own9.row
theorem zCm {w:World} {b g cap:Nat} {I:Inp} {nx op:Nat} {R:Nat→Res (List Tm)} (HR:Does 94 b g cap I op szV R) (h:Rd w b g cap I.L I.len nx op) (hG:GlobB b w) (most:Nat) (hmost:most≤1000) :
  Calls Tryz.prog 103 #[.pointer (some ⟨b,0,none⟩),.int .i64 most,.func (.func 94) #[.pointer (some ⟨b,0,none⟩)] #[]] w (Post b g cap I op (rowV kSize) nx w (Ps.row I R most [] nx)):=by
 have hb:=h.bb;have hg:=h.gb;go_enter Tryz.func103,Tryz.ntmps103;go_wp2;go_loopg [7] most (fun k v wr=>∃ (n:Nat) (acc:List (List Tm)),k+acc.length=most∧OwnL kSize w.heap.size wr v acc∧Rd wr b g cap I.L I.len n op∧Aside [b] w.heap.size w wr∧nx≤n∧Hid (Ps.row I R most [] nx=Ps.row I R k acc n))
 case atStart=>exact ⟨nx,[],rfl,OwnL.nil,h,Aside.refl _,Nat.le_refl _,rfl⟩
 case round=>
  obtain ⟨n,acc,hk,hown,hr,hA,hle,hmod⟩:=hrel;obtain ⟨aa,cc,rfl,hc1,hc2⟩:=hown.form;unfold maxLen at hc2;have zr:=hA.size;by_cases hz:gk=0
  ·subst hz
   go_wp2_with fail;refine (jC hr _ _ (by omega)).mono ?_;rintro e w5 ⟨rfl,b5⟩;exact ⟨rfl,Post.fail (by rw [hmod.out];rfl) (hA.trans (aside b5) hA.size)⟩
  ·obtain ⟨f,rfl⟩:∃ f,gk=f+1:=⟨gk-1,by omega⟩
   go_wp2_with fail;refine (qF _ _ _ (by omega) _).mono ?_;rintro e wr ⟨rfl,rfl⟩;go_wp2_with fail;refine (HR n _ hr (hG.far hA)).mono ?_;rintro e w7 ⟨a7,hres⟩;have A7:=hA.trans a7 zr;have own7:=hown.past a7 (by simp;omega);have z7:=A7.size;have y7:=a7.size
   cases ht:R n with
   | err c a=>
    rw [ht] at hres;obtain rfl:e=_:=hres;exact ⟨rfl,Post.fail (by rw [hmod.out,jA,ht];rfl) A7⟩
   | ok y n1=>
    rw [ht] at hres;obtain ⟨le7,h7,x7,rfl,hV⟩:=hres;obtain ⟨ad,nd,cd,rfl⟩:=HTerms.slice hV;have hmod2:Hid (Ps.row I R most [] nx=if Ps.sees I [44] n1=true then Ps.row I R f (acc++[y]) (n1+1) else .ok (acc++[y]) n1):=by
     show Ps.row I R most [] nx=_
     rw [hmod.out,jA,ht];rfl
    have hNb:=fun k hk=>(hown.lt k hk).2;have q1:kSize.E (fun i=>wr.heap.size≤i) w7 [.slice ad nd cd] y:=⟨_,rfl,hV⟩;have q2:(acc.length+1)*kSize.bytes≤140737488355328:=(by show (acc.length+1)*24≤_;omega);have q3:acc.length+1≤maxLen:=(by unfold maxLen;omega);clear hmod ht a7 hown hr hA HR
    go_wp2_with (at_builtin;refine xD kSize rfl _ _ 40 90 rfl Tryz.underlying40 w.heap.size wr.heap.size _ acc (by rfl) own7 [.slice ad nd cd] y q1 (by rfl) hNb zr z7 q2 q3 ?_;intro v8 w8 own8 b8 _ _)
    have h8:=h7.under b8 (by omega) (by omega);have A8:=A7.trans (aside b8) nR;refine (zS h8 ⟨#[44]⟩ (by decide)).mono ?_;rintro e w9 ⟨rfl,h9,a9⟩;have es:(⟨#[44]⟩:ByteArray).data.toList=[44]:=rfl;rw [es] at h9;simp only [es];clear es;have A9:=A8.trans a9 A8.size;have own9:=own8.past a9 (by simp;omega);clear A8 a9 own8 h8 own7 h7 b8 A7 hNb q1
    cases hq:Ps.sees I [44] n1 with
    | true=>
     rw [hq] at h9 hmod2;go_wp2;go_roundg f
     case measure=>omega
     case rel=>exact ⟨n1+1,acc++[y],by simp;omega,own9,by simpa using h9,A9,by omega,zD (by simpa using hmod2.out)⟩
    | false=>
     rw [hq] at h9 hmod2;obtain ⟨a10,c10,rfl,_,_⟩:=own9.form;go_wp2;go_ret;exact Post.good (by rw [hmod2.out];rfl) A9 (by omega) (by simpa using h9) own9.row
theorem zAP {w:World} {b g cap:Nat} {I:Inp} {nx op:Nat} {R:Nat→Res Ex} (HR:Does 102 b g cap I op exV R) (h:Rd w b g cap I.L I.len nx op) (hG:GlobB b w) (most:Nat) (hmost:most≤1000) :
  Calls Tryz.prog 104 #[.pointer (some ⟨b,0,none⟩),.int .i64 most,.func (.func 102) #[.pointer (some ⟨b,0,none⟩)] #[]] w (Post b g cap I op (rowV kExpr) nx w (Ps.row I R most [] nx)):=by
 have hb:=h.bb;have hg:=h.gb;go_enter Tryz.func104,Tryz.ntmps104;go_wp2;go_loopg [7] most (fun k v wr=>∃ (n:Nat) (acc:List Ex),k+acc.length=most∧OwnL kExpr w.heap.size wr v acc∧Rd wr b g cap I.L I.len n op∧Aside [b] w.heap.size w wr∧nx≤n∧Hid (Ps.row I R most [] nx=Ps.row I R k acc n))
 case atStart=>exact ⟨nx,[],rfl,OwnL.nil,h,Aside.refl _,Nat.le_refl _,rfl⟩
 case round=>
  obtain ⟨n,acc,hk,hown,hr,hA,hle,hmod⟩:=hrel;obtain ⟨aa,cc,rfl,hc1,hc2⟩:=hown.form;unfold maxLen at hc2;have zr:=hA.size;by_cases hz:gk=0
  ·subst hz
   go_wp2_with fail;refine (jC hr _ _ (by omega)).mono ?_;rintro e w5 ⟨rfl,b5⟩;exact ⟨rfl,Post.fail (by rw [hmod.out];rfl) (hA.trans (aside b5) hA.size)⟩
  ·obtain ⟨f,rfl⟩:∃ f,gk=f+1:=⟨gk-1,by omega⟩
   go_wp2_with fail;refine (qF _ _ _ (by omega) _).mono ?_;rintro e wr ⟨rfl,rfl⟩;go_wp2_with fail;refine (HR n _ hr (hG.far hA)).mono ?_;rintro e w7 ⟨a7,hres⟩;have A7:=hA.trans a7 zr;have own7:=hown.past a7 (by simp;omega);have z7:=A7.size;have y7:=a7.size
   cases ht:R n with
   | err c a=>
    rw [ht] at hres;obtain rfl:e=_:=hres;exact ⟨rfl,Post.fail (by rw [hmod.out,jA,ht];rfl) A7⟩
   | ok y n1=>
    rw [ht] at hres;obtain ⟨le7,h7,x7,rfl,hV⟩:=hres;obtain ⟨x,rfl,hX⟩:=hV;have hmod2:Hid (Ps.row I R most [] nx=if Ps.sees I [44] n1=true then Ps.row I R f (acc++[y]) (n1+1) else .ok (acc++[y]) n1):=by
     show Ps.row I R most [] nx=_
     rw [hmod.out,jA,ht];rfl
    have hNb:=fun k hk=>(hown.lt k hk).2;have q1:kExpr.E (fun i=>wr.heap.size≤i) w7 [.int .i64 x.op,.int .i64 x.k,.int .i64 x.n,.string x.name,.slice x.aS x.nS x.cS,.slice x.aL x.nL x.cL] y:=hX;have q2:(acc.length+1)*kExpr.bytes≤140737488355328:=(by show (acc.length+1)*88≤_;omega);have q3:acc.length+1≤maxLen:=(by unfold maxLen;omega);clear hmod ht a7 hown hr hA HR
    go_wp2_with (at_builtin;refine xD kExpr rfl _ _ 41 45 rfl Tryz.underlying41 w.heap.size wr.heap.size _ acc (by rfl) own7 [.int .i64 x.op,.int .i64 x.k,.int .i64 x.n,.string x.name,.slice x.aS x.nS x.cS,.slice x.aL x.nL x.cL] y q1 (by rfl) hNb zr z7 q2 q3 ?_;intro v8 w8 own8 b8 _ _)
    have h8:=h7.under b8 (by omega) (by omega);have A8:=A7.trans (aside b8) nR;refine (zS h8 ⟨#[44]⟩ (by decide)).mono ?_;rintro e w9 ⟨rfl,h9,a9⟩;have es:(⟨#[44]⟩:ByteArray).data.toList=[44]:=rfl;rw [es] at h9;simp only [es];clear es;have A9:=A8.trans a9 A8.size;have own9:=own8.past a9 (by simp;omega);clear A8 a9 own8 h8 own7 h7 b8 A7 hNb q1
    cases hq:Ps.sees I [44] n1 with
    | true=>
     rw [hq] at h9 hmod2;go_wp2;go_roundg f
     case measure=>omega
     case rel=>exact ⟨n1+1,acc++[y],by simp;omega,own9,by simpa using h9,A9,by omega,zD (by simpa using hmod2.out)⟩
    | false=>
     rw [hq] at h9 hmod2;obtain ⟨a10,c10,rfl,_,_⟩:=own9.form;go_wp2;go_ret;exact Post.good (by rw [hmod2.out];rfl) A9 (by omega) (by simpa using h9) own9.row
end Go.Proofs.YthkpanbgkimhoaaGreatDoor
