import Derived.Test.YtophfbefnaelfaaGreatDoorA07
import Derived.Test.YtophfbefnaelfaaGreatDoorA05
set_option linter.unusedVariables false
set_option linter.unusedSimpArgs false
set_option maxHeartbeats 64000000
set_option maxRecDepth 100000
namespace Go.Proofs.YtophfbefnaelfaaGreatDoor
open Go.RowKit Go.IntWalk
mutual
def xeq:Ex→Ex→Bool
 | .mk o k n s S L,.mk o' k' n' s' S' L'=>(o==o')&&(k==k')&&(n==n')&&seq s s'&&eqL (eqL teq) S S'&&xeqs L L'
def xeqs:List Ex→List Ex→Bool
 | [],[]=>true
 | a :: l,b :: r=>xeq a b&&xeqs l r
 | _,_=>false
end
theorem xeqs_eq:∀ l r:List Ex,xeqs l r=eqL xeq l r
 | [],[]=>by simp [xeqs,eqL]
 | [],_ :: _=>by simp [xeqs,eqL]
 | _ :: _,[]=>by simp [xeqs,eqL]
 | a :: l,b :: r=>by simp [xeqs,eqL,xeqs_eq l r]
theorem szeq_refl (S:List (List Tm)):eqL (eqL teq) S S=true:=eqL_refl S fun x _=>eqL_refl x fun y _=>teq_refl y
mutual
theorem xeq_refl:∀ e:Ex,xeq e e=true
 | .mk o k n s S L=>by simp [xeq,seq_refl,szeq_refl,xeqs_refl L]
theorem xeqs_refl:∀ l:List Ex,xeqs l l=true
 | []=>by simp [xeqs]
 | a :: l=>by simp [xeqs,xeq_refl a,xeqs_refl l]
end
def HExs (ok:Nat→Prop) (w:World) (v:Value) (L:List Ex):Prop:=∃ C,Sl ok 6 w v L.length C∧∀ i (h:i<L.length),HEx ok w (C i) L[i]
theorem HExs.keep {ok:Nat→Prop} {w w':World} {v:Value} {l:List Ex} (h:HExs ok w v l) (hs:w.heap.size≤w'.heap.size) (hk:∀ i,ok i→i<w.heap.size→w'.heap[i]?=w.heap[i]?):HExs ok w' v l:=by
 obtain ⟨C,h1,h2⟩:=h;exact ⟨C,h1.keep hs hk,fun i hi=>(h2 i hi).keep hs hk⟩
theorem HExs.under {ok:Nat→Prop} {w w':World} {v:Value} {l:List Ex} (h:HExs ok w v l) (a:Below w.heap.size w w'):HExs ok w' v l:=h.keep a.size fun i _ hl=>a.block i hl
theorem HExs.at {ok:Nat→Prop} {w:World} {v:Value} {L:List Ex} (h:HExs ok w v L) :
  ∃ ao cap,v=.slice ao L.length cap∧L.length≤cap∧cap≤maxLen∧∀ i (h:i<L.length),∃ b o y,ao=some ⟨b,o,none⟩∧ok b∧b<w.heap.size∧ExAt w b (o+i*6) y∧HEx ok w y.cells L[i]:=by
 obtain ⟨C,h1,h2⟩:=h;exact h1.exAt h2
theorem HEx.parts {ok:Nat→Prop} {w:World} {x:ExV} {e:Ex} (h:HEx ok w x.cells e):x.op=e.op∧x.k=e.k∧x.n=e.n∧x.name=e.name∧HSizes ok w (.slice x.aS x.nS x.cS) e.S∧HExs ok w (.slice x.aL x.nL x.cL) e.L:=by
 obtain ⟨o,k,n,s,a,b,c,d,f,g⟩:=x
 cases h with
 | mk C hS hL hE=>exact ⟨rfl,rfl,rfl,rfl,hS,C,hL,hE⟩
def ComparesE (q:Nat):Prop:=∀ (ok ok':Nat→Prop) (w:World) (x y:ExV) (a b:Ex),parts a≤q→HEx ok w x.cells a→HEx ok' w y.cells b →
 Calls Tryz.prog 97 #[.agg #[.int .i64 x.op,.int .i64 x.k,.int .i64 x.n,.string x.name,.slice x.aS x.nS x.cS,.slice x.aL x.nL x.cL],.agg #[.int .i64 y.op,.int .i64 y.k,.int .i64 y.n,.string y.name,.slice y.aS y.nS y.cS,.slice y.aL y.nL y.cL]] w fun e w'=>e=.returned (.bool (xeq a b))∧Below w.heap.size w w'
def ComparesL (q:Nat):Prop:=∀ (ok ok':Nat→Prop) (w:World) (v u:Value) (l r:List Ex),partsL l≤q→HExs ok w v l→HExs ok' w u r →
 Calls Tryz.prog 96 #[v,u,.func (.func 97) #[] #[]] w fun e w'=>e=.returned (.bool (eqL xeq l r))∧Below w.heap.size w w'
end Go.Proofs.YtophfbefnaelfaaGreatDoor
namespace Go.Proofs.YtophfbefnaelfaaGreatDoor
open Go.RowKit Go.IntWalk
theorem sameExpr_step (q:Nat) (HL:ComparesL q):ComparesE (q+1):=by
 intro ok ok' w x y a b hq hx hy;obtain ⟨x1,x2,x3,x4,xS,xL⟩:=hx.parts;obtain ⟨y1,y2,y3,y4,yS,yL⟩:=hy.parts;obtain ⟨ao,ak,an,am,aS,aL⟩:=a;obtain ⟨bo,bk,bn,bs,bS,bL⟩:=b;have hqL:partsL aL≤q:=(by rw [parts] at hq;omega);simp only [Ex.op,Ex.k,Ex.n,Ex.name,Ex.S,Ex.L] at x1 x2 x3 x4 xS xL y1 y2 y3 y4 yS yL;rw [x1,x2,x3,x4,y1,y2,y3,y4];obtain ⟨R,hR⟩:=nmQ (xeq (.mk ao ak an am aS aL) (.mk bo bk bn bs bS bL));rw [←hR];rw [xeq,xeqs_eq] at hR;unfold seq at hR;clear x1 x2 x3 x4 y1 y2 y3 y4 hx hy hq;have hB:∀ o o',Below w.heap.size w ((w.alloc o).alloc o'):=fun o o'=>((Below.refl _ w).alloc nR o).alloc (by simp) o'
 cases h0:(ao==bo)
 ·
  have:R=false:=(by rw [hR,h0];rfl);subst this;clear hR;go_enter Tryz.func97,Tryz.ntmps97;go_wp2;go_ret;exact ⟨rfl,hB _ _⟩
 ·
  cases h1:(ak==bk)
  ·
   have:R=false:=(by rw [hR,h0,h1];rfl);subst this;clear hR;go_enter Tryz.func97,Tryz.ntmps97;go_wp2;go_ret;exact ⟨rfl,hB _ _⟩
  ·
   cases h2:(an==bn)
   ·
    have:R=false:=(by rw [hR,h0,h1,h2];rfl);subst this;clear hR;go_enter Tryz.func97,Tryz.ntmps97;go_wp2;go_ret;exact ⟨rfl,hB _ _⟩
   ·
    cases h3:(am.toList==bs.toList)
    ·
     have:R=false:=(by rw [hR,h0,h1,h2,h3];rfl);subst this;clear hR;go_enter Tryz.func97,Tryz.ntmps97;go_wp2;go_ret;exact ⟨rfl,hB _ _⟩
    ·
     cases h4:eqL (eqL teq) aS bS
     ·
      have:R=false:=(by rw [hR,h0,h1,h2,h3,h4];rfl);subst this;clear hR;go_enter Tryz.func97,Tryz.ntmps97;go_wp2_with fail;refine (equalSizes_any (xS.under (hB _ _)) (yS.under (hB _ _))).mono ?_;rintro e w1 ⟨rfl,b1⟩;rw [h4];have hb1:=(hB _ _).trans (b1.mono (by simp;omega));go_wp2;go_ret;exact ⟨rfl,hb1⟩
     ·have h5:R=eqL xeq aL bL:=by rw [hR,h0,h1,h2,h3,h4];rfl
      subst h5;clear hR;go_enter Tryz.func97,Tryz.ntmps97;go_wp2_with fail;refine (equalSizes_any (xS.under (hB _ _)) (yS.under (hB _ _))).mono ?_;rintro e w1 ⟨rfl,b1⟩;rw [h4];have hb1:=(hB _ _).trans (b1.mono (by simp;omega));obtain ⟨N1,hN1⟩:∃ N1:Nat,N1=w.heap.size+1:=⟨_,rfl⟩;have k1:=(aside b1 (S:=[])).keep (kA (heap_new w _) _) (by simp;omega) (by simp);have k2:=(aside b1 (S:=[])).keep (heap_new (w.alloc _) _) (by simp) (by simp);have c1:=co k1 5;have c2:=co k2 5;simp at c1 c2;clear hN1 N1;go_wp2_with fail;refine (HL _ _ _ _ _ _ _ hqL (xL.under hb1) (yL.under hb1)).mono ?_;rintro e w2 ⟨rfl,b2⟩;have hb2:=hb1.trans (b2.mono hb1.size);go_wp2;go_ret;exact ⟨rfl,hb2⟩
theorem equalExprs_step (q:Nat) (HE:ComparesE q) {ok ok':Nat→Prop} {w:World} {v u:Value} {l r:List Ex} (hqq:partsL l≤q) (hl:HExs ok w v l) (hr:HExs ok' w u r) :
  Calls Tryz.prog 96 #[v,u,.func (.func 97) #[] #[]] w fun e w'=>e=.returned (.bool (eqL xeq l r))∧Below w.heap.size w w':=by
 obtain ⟨ao,cap,rfl,hc1,hc2,hat⟩:=hl.at;obtain ⟨ao',cap',rfl,hd1,hd2,hat'⟩:=hr.at;unfold maxLen at hc2 hd2;have HQ:=hide hqq;clear hqq;obtain ⟨R,hR⟩:=nmQ (eqL xeq l r);rw [←hR];have HR:=hide hR;clear hR hl hr;obtain ⟨n,hn⟩:=nmQ (l.length);obtain ⟨m,hm⟩:=nmQ (r.length);rw [←hn] at hc1 ⊢;rw [←hm] at hd1 ⊢;have HN:=hide hn;have HM:=hide hm;by_cases hlen:n=m
 ·subst hlen
  have hq:((n:Int) != (n:Int))=false:=(by simp);clear hn hm;go_enter Tryz.func96,Tryz.ntmps96;go_wp2;go_loopg [17] n (fun k v wr=>∃ i,i≤n∧k=n-i∧v=.int .i64 (i:Nat)∧Hid (∀ j (h:j<l.length) (h':j<r.length),j<i→xeq l[j] r[j]=true)∧Below w.heap.size w wr)
  case atStart=>exact ⟨0,Nat.zero_le _,rfl,rfl,fun j _ _ h=>absurd h (Nat.not_lt_zero _),Below.refl _ _⟩
  case round=>
   obtain ⟨i,hi,rfl,rfl,H,hbr⟩:=hrel;by_cases hlt:i<n
   ·have hil:i<l.length:=by have:=HN.out;omega
    have hir:i<r.length:=(by have:=HM.out;omega);obtain ⟨b,o,x,rfl,_,hb,hxa,hx⟩:=hat i hil;obtain ⟨b',o',y,rfl,_,hb',hya,hy⟩:=hat' i hir;obtain ⟨c0,c1,c2,c3,c4,c5⟩:=hxa.keep (hbr.block b hb);obtain ⟨d0,d1,d2,d3,d4,d5⟩:=hya.keep (hbr.block b' hb');have zb':b'<wr.heap.size:=Nat.lt_of_lt_of_le hb' hbr.size;have f0:=fun o=>((Below.refl _ wr).alloc nR o).cell (p:=⟨b',o'+i*6,none⟩) zb' |>.trans d0
    have f1:=fun o=>((Below.refl _ wr).alloc nR o).cell (p:=⟨b',o'+i*6+1,none⟩) zb' |>.trans d1
    have f2:=fun o=>((Below.refl _ wr).alloc nR o).cell (p:=⟨b',o'+i*6+2,none⟩) zb' |>.trans d2
    have f3:=fun o=>((Below.refl _ wr).alloc nR o).cell (p:=⟨b',o'+i*6+3,none⟩) zb' |>.trans d3
    have f4:=fun o=>((Below.refl _ wr).alloc nR o).cell (p:=⟨b',o'+i*6+4,none⟩) zb' |>.trans d4
    have f5:=fun o=>((Below.refl _ wr).alloc nR o).cell (p:=⟨b',o'+i*6+5,none⟩) zb' |>.trans d5
    have hB:∀ o o',Below wr.heap.size wr ((wr.alloc o).alloc o'):=fun o o'=>((Below.refl _ wr).alloc nR o).alloc (by simp) o';have g1:=hx.under hbr;have g2:=hy.under hbr;have hqi:parts l[i]≤q:=Nat.le_trans (parts_mem l i hil) HQ.out;clear hxa hya hx hy;clear hat hat'
    cases hxy:xeq l[i] r[i]
    ·
     go_wp2_with fail;refine (HE _ _ _ _ _ _ _ hqi (g1.under (hB _ _)) (g2.under (hB _ _))).mono ?_;rintro e w1 ⟨rfl,b1⟩;rw [hxy]
     all_goals
      have hb1:=hbr.trans (((hB _ _).trans (b1.mono (by simp;omega))).mono hbr.size);go_wp2;go_ret;refine ⟨ret_bool ?_,hb1⟩;rw [HR.out];exact (eqL_bad i hil hir hxy).symm
    ·
     go_wp2_with fail;refine (HE _ _ _ _ _ _ _ hqi (g1.under (hB _ _)) (g2.under (hB _ _))).mono ?_;rintro e w1 ⟨rfl,b1⟩;rw [hxy]
     all_goals
      have hb1:=hbr.trans (((hB _ _).trans (b1.mono (by simp;omega))).mono hbr.size);go_wp2;go_roundg (n-(i+1))
      case measure=>omega
      case rel=>
       refine ⟨i+1,by omega,rfl,by go_num,fun j hj hj' hji=>?_,hb1⟩;by_cases e:j=i
       ·subst e
        exact hxy
       ·exact H.out j hj hj' (by omega)
   ·have hie:i=n:=by omega
    subst hie;clear hat hat';go_wp2;go_ret;refine ⟨ret_bool ?_,hbr⟩;rw [HR.out];exact (eqL_all (by rw [←HN.out,←HM.out]) (fun j hj hj'=>H.out j hj hj' (by rw [HN.out];exact hj))).symm
 ·have hq:((n:Int) != (m:Int))=true:=by simp;omega
  clear hat hat' hn hm;go_enter Tryz.func96,Tryz.ntmps96;go_wp2;go_ret;refine ⟨ret_bool ?_,Below.refl _ _⟩;rw [HR.out];exact (eqL_len (by rw [←HN.out,←HM.out];exact hlen)).symm
theorem compares:∀ q,ComparesE q∧ComparesL q
 | 0=>by
  have hE:ComparesE 0:=fun ok ok' w x y a b h _ _=>by
   obtain ⟨o,k,n,s,S,L⟩:=a;rw [parts] at h;omega
  exact ⟨hE,fun ok ok' w v u l r hq hl hr=>equalExprs_step 0 hE hq hl hr⟩
 | q+1=>by
  have hE:=sameExpr_step q (compares q).2;exact ⟨hE,fun ok ok' w v u l r hq hl hr=>equalExprs_step (q+1) hE hq hl hr⟩
theorem equalExprs_any {ok ok':Nat→Prop} {w:World} {v u:Value} {l r:List Ex} (hl:HExs ok w v l) (hr:HExs ok' w u r) :
  Calls Tryz.prog 96 #[v,u,.func (.func 97) #[] #[]] w fun e w'=>e=.returned (.bool (eqL xeq l r))∧Below w.heap.size w w':=(compares (partsL l)).2 _ _ _ _ _ _ _ nR hl hr
def qeq (a b:Eqn):Bool:=eqL seq a.names b.names&&seq a.node b.node&&eqL (eqL teq) a.S b.S&&eqL xeq a.E b.E
theorem qeq_refl (a:Eqn):qeq a a=true:=by
 simp [qeq,seq_refl,szeq_refl,eqL_refl a.names (fun x _=>seq_refl x),eqL_refl a.E (fun x _=>xeq_refl x)]
structure EqV where
 place:Int
 aN:Option Addr
 nN:Nat
 cN:Nat
 node:ByteArray
 aS:Option Addr
 nS:Nat
 cS:Nat
 aE:Option Addr
 nE:Nat
 cE:Nat
def EqV.cells (x:EqV):List Value:=[.int .i64 x.place,.slice x.aN x.nN x.cN,.string x.node,.slice x.aS x.nS x.cS,.slice x.aE x.nE x.cE]
structure HEq (ok:Nat→Prop) (w:World) (x:EqV) (q:Eqn):Prop where
 place:x.place=q.place
 names:HNames ok w (.slice x.aN x.nN x.cN) q.names
 node:x.node=q.node
 S:HSizes ok w (.slice x.aS x.nS x.cS) q.S
 E:HExs ok w (.slice x.aE x.nE x.cE) q.E
theorem HEq.keep {ok:Nat→Prop} {w w':World} {x:EqV} {q:Eqn} (h:HEq ok w x q) (hs:w.heap.size≤w'.heap.size) (hk:∀ i,ok i→i<w.heap.size→w'.heap[i]?=w.heap[i]?):HEq ok w' x q :=
 ⟨h.place,h.names.keep hs hk,h.node,h.S.keep hs hk,h.E.keep hs hk⟩
theorem HEq.under {ok:Nat→Prop} {w w':World} {x:EqV} {q:Eqn} (h:HEq ok w x q) (a:Below w.heap.size w w'):HEq ok w' x q:=h.keep a.size fun i _ hl=>a.block i hl
def EqAt (w:World) (b o:Nat) (y:EqV):Prop :=
 w.cell? ⟨b,o,none⟩=some (.int .i64 y.place)∧w.cell? ⟨b,o+1,none⟩=some (.slice y.aN y.nN y.cN)∧w.cell? ⟨b,o+2,none⟩=some (.string y.node) ∧
 w.cell? ⟨b,o+3,none⟩=some (.slice y.aS y.nS y.cS)∧w.cell? ⟨b,o+4,none⟩=some (.slice y.aE y.nE y.cE)
theorem EqAt.keep {w w':World} {b o:Nat} {y:EqV} (h:EqAt w b o y) (hb:w'.heap[b]?=w.heap[b]?):EqAt w' b o y:=by
 have hc:∀ q,w'.cell? ⟨b,q,none⟩=w.cell? ⟨b,q,none⟩:=fun q=>World.cell?_of_block (w:=w) hb;obtain ⟨h0,h1,h2,h3,h4⟩:=h;exact ⟨(hc _).trans h0,(hc _).trans h1,(hc _).trans h2,(hc _).trans h3,(hc _).trans h4⟩
def HEqs (ok:Nat→Prop) (w:World) (v:Value) (l:List Eqn):Prop:=∃ C,Sl ok 5 w v l.length C∧∀ i (h:i<l.length),∃ x,C i=x.cells∧HEq ok w x l[i]
theorem HEqs.keep {ok:Nat→Prop} {w w':World} {v:Value} {l:List Eqn} (h:HEqs ok w v l) (hs:w.heap.size≤w'.heap.size) (hk:∀ i,ok i→i<w.heap.size→w'.heap[i]?=w.heap[i]?):HEqs ok w' v l:=by
 obtain ⟨C,h1,h2⟩:=h;refine ⟨C,h1.keep hs hk,fun i hi=>?_⟩;obtain ⟨x,e,hx⟩:=h2 i hi;exact ⟨x,e,hx.keep hs hk⟩
theorem HEqs.under {ok:Nat→Prop} {w w':World} {v:Value} {l:List Eqn} (h:HEqs ok w v l) (a:Below w.heap.size w w'):HEqs ok w' v l:=h.keep a.size fun i _ hl=>a.block i hl
theorem HEqs.at {ok:Nat→Prop} {w:World} {v:Value} {l:List Eqn} (h:HEqs ok w v l) :
  ∃ ao cap,v=.slice ao l.length cap∧l.length≤cap∧cap≤maxLen∧∀ i (h:i<l.length),∃ b o y,ao=some ⟨b,o,none⟩∧b<w.heap.size∧EqAt w b (o+i*5) y∧HEq ok w y l[i]:=by
 obtain ⟨C,⟨ao,cap,hv,h1,h2,h3⟩,hC⟩:=h;refine ⟨ao,cap,hv,h1,h2,fun i hi=>?_⟩;obtain ⟨b,o,ha,hob,hb,hc⟩:=h3 (by omega);obtain ⟨x,hx,hq⟩:=hC i hi;have hcc:=(hc i hi).2;rw [hx] at hcc;exact ⟨b,o,x,ha,hb,⟨hcc 0 (by decide),hcc 1 (by decide),hcc 2 (by decide),hcc 3 (by decide),hcc 4 (by decide)⟩,hq⟩
theorem sameEq_any {ok ok':Nat→Prop} {w:World} {x y:EqV} {a b:Eqn} (hx:HEq ok w x a) (hy:HEq ok' w y b) :
  Calls Tryz.prog 63 #[.agg #[.int .i64 x.place,.slice x.aN x.nN x.cN,.string x.node,.slice x.aS x.nS x.cS,.slice x.aE x.nE x.cE],.agg #[.int .i64 y.place,.slice y.aN y.nN y.cN,.string y.node,.slice y.aS y.nS y.cS,.slice y.aE y.nE y.cE]] w fun e w'=>e=.returned (.bool (qeq a b))∧Below w.heap.size w w':=by
 obtain ⟨R,hR⟩:=nmQ (qeq a b);rw [←hR];unfold qeq seq at hR;rw [←hx.node,←hy.node] at hR;have hB:∀ o o',Below w.heap.size w ((w.alloc o).alloc o'):=fun o o'=>((Below.refl _ w).alloc nR o).alloc (by simp) o';have n0:=hx.names;have n1:=hy.names;have s0:=hx.S;have s1:=hy.S;have e0:=hx.E;have e1:=hy.E;clear hx hy;go_enter Tryz.func63,Tryz.ntmps63;go_wp2_with fail;refine (equalStr_any (n0.under (hB _ _)) (n1.under (hB _ _))).mono ?_;rintro e w1 ⟨rfl,b1⟩;have hb1:=(hB _ _).trans (b1.mono (by simp;omega));have k1:=(aside b1 (S:=[])).keep (kA (heap_new w _) _) (by simp;omega) (by simp);have k2:=(aside b1 (S:=[])).keep (heap_new (w.alloc _) _) (by simp) (by simp);have e2:∀ o:Obj,(w.alloc o).heap.size=w.heap.size+1:=fun o=>by simp
 rw [e2] at k2;have p2:=co k1 2;have p3:=co k1 3;have p4:=co k1 4;have q2:=co k2 2;have q3:=co k2 3;have q4:=co k2 4;simp at p2 p3 p4 q2 q3 q4
 cases h0:eqL seq a.names b.names
 ·have:R=false:=by rw [hR,show (fun a b:ByteArray=>a.toList==b.toList)=seq from rfl]<;>simp [h0]
  subst this;clear hR;go_wp2;go_ret;exact ⟨rfl,hb1⟩
 ·cases h1:(x.node.toList==y.node.toList)
  ·have:R=false:=by rw [hR,h1];simp
   subst this;clear hR;go_wp2;go_ret;exact ⟨rfl,hb1⟩
  ·go_wp2_with fail
   refine (equalSizes_any (s0.under hb1) (s1.under hb1)).mono ?_;rintro e w2 ⟨rfl,b2⟩;have hb2:=hb1.trans (b2.mono hb1.size);have z2:w.heap.size+1+1≤w1.heap.size:=(by simpa using b1.size);have p24:=(b2.cell (p:=⟨w.heap.size,4,none⟩) (by simp;omega)).trans p4;have q24:=(b2.cell (p:=⟨w.heap.size+1,4,none⟩) (by simp;omega)).trans q4
   cases h2:eqL (eqL teq) a.S b.S
   ·have:R=false:=by rw [hR,h2];simp
    subst this;clear hR;go_wp2;go_ret;exact ⟨rfl,hb2⟩
   ·go_wp2_with fail
    refine (equalExprs_any (e0.under hb2) (e1.under hb2)).mono ?_;rintro e w3 ⟨rfl,b3⟩;have hb3:=hb2.trans (b3.mono hb2.size);have:R=eqL xeq a.E b.E:=(by rw [hR,h1,h2,show eqL (fun a b:ByteArray=>a.toList==b.toList) a.names b.names=true from h0];simp);subst this;clear hR;go_wp2;go_ret;exact ⟨rfl,hb3⟩
theorem equalEqs_any {ok ok':Nat→Prop} {w:World} {v u:Value} {l r:List Eqn} (hl:HEqs ok w v l) (hr:HEqs ok' w u r) :
  Calls Tryz.prog 62 #[v,u,.func (.func 63) #[] #[]] w fun e w'=>e=.returned (.bool (eqL qeq l r))∧Below w.heap.size w w':=by
 obtain ⟨ao,cap,rfl,hc1,hc2,hat⟩:=hl.at;obtain ⟨ao',cap',rfl,hd1,hd2,hat'⟩:=hr.at;unfold maxLen at hc2 hd2;obtain ⟨R,hR⟩:=nmQ (eqL qeq l r);rw [←hR];have HR:=hide hR;clear hR hl hr;obtain ⟨n,hn⟩:=nmQ (l.length);obtain ⟨m,hm⟩:=nmQ (r.length);rw [←hn] at hc1 ⊢;rw [←hm] at hd1 ⊢;have HN:=hide hn;have HM:=hide hm;by_cases hlen:n=m
 ·subst hlen
  have hq:((n:Int) != (n:Int))=false:=(by simp);clear hn hm;go_enter Tryz.func62,Tryz.ntmps62;go_wp2;go_loopg [17] n (fun k v wr=>∃ i,i≤n∧k=n-i∧v=.int .i64 (i:Nat)∧Hid (∀ j (h:j<l.length) (h':j<r.length),j<i→qeq l[j] r[j]=true)∧Below w.heap.size w wr)
  case atStart=>exact ⟨0,Nat.zero_le _,rfl,rfl,fun j _ _ h=>absurd h (Nat.not_lt_zero _),Below.refl _ _⟩
  case round=>
   obtain ⟨i,hi,rfl,rfl,H,hbr⟩:=hrel;by_cases hlt:i<n
   ·have hil:i<l.length:=by have:=HN.out;omega
    have hir:i<r.length:=(by have:=HM.out;omega);obtain ⟨b,o,x,rfl,hb,hxa,hx⟩:=hat i hil;obtain ⟨b',o',y,rfl,hb',hya,hy⟩:=hat' i hir;obtain ⟨c0,c1,c2,c3,c4⟩:=hxa.keep (hbr.block b hb);obtain ⟨d0,d1,d2,d3,d4⟩:=hya.keep (hbr.block b' hb');have zb':b'<wr.heap.size:=Nat.lt_of_lt_of_le hb' hbr.size;have f0:=fun o=>((Below.refl _ wr).alloc nR o).cell (p:=⟨b',o'+i*5,none⟩) zb' |>.trans d0
    have f1:=fun o=>((Below.refl _ wr).alloc nR o).cell (p:=⟨b',o'+i*5+1,none⟩) zb' |>.trans d1
    have f2:=fun o=>((Below.refl _ wr).alloc nR o).cell (p:=⟨b',o'+i*5+2,none⟩) zb' |>.trans d2
    have f3:=fun o=>((Below.refl _ wr).alloc nR o).cell (p:=⟨b',o'+i*5+3,none⟩) zb' |>.trans d3
    have f4:=fun o=>((Below.refl _ wr).alloc nR o).cell (p:=⟨b',o'+i*5+4,none⟩) zb' |>.trans d4
    have hB:∀ o o',Below wr.heap.size wr ((wr.alloc o).alloc o'):=fun o o'=>((Below.refl _ wr).alloc nR o).alloc (by simp) o';have g1:=hx.under hbr;have g2:=hy.under hbr;clear hxa hya hx hy;clear hat hat'
    cases hxy:qeq l[i] r[i]
    ·
     go_wp2_with fail;refine (sameEq_any (g1.under (hB _ _)) (g2.under (hB _ _))).mono ?_;rintro e w1 ⟨rfl,b1⟩;rw [hxy]
     all_goals
      have hb1:=hbr.trans (((hB _ _).trans (b1.mono (by simp;omega))).mono hbr.size);go_wp2;go_ret;refine ⟨ret_bool ?_,hb1⟩;rw [HR.out];exact (eqL_bad i hil hir hxy).symm
    ·
     go_wp2_with fail;refine (sameEq_any (g1.under (hB _ _)) (g2.under (hB _ _))).mono ?_;rintro e w1 ⟨rfl,b1⟩;rw [hxy]
     all_goals
      have hb1:=hbr.trans (((hB _ _).trans (b1.mono (by simp;omega))).mono hbr.size);go_wp2;go_roundg (n-(i+1))
      case measure=>omega
      case rel=>
       refine ⟨i+1,by omega,rfl,by go_num,fun j hj hj' hji=>?_,hb1⟩;by_cases e:j=i
       ·subst e
        exact hxy
       ·exact H.out j hj hj' (by omega)
   ·have hie:i=n:=by omega
    subst hie;clear hat hat';go_wp2;go_ret;refine ⟨ret_bool ?_,hbr⟩;rw [HR.out];exact (eqL_all (by rw [←HN.out,←HM.out]) (fun j hj hj'=>H.out j hj hj' (by rw [HN.out];exact hj))).symm
 ·have hq:((n:Int) != (m:Int))=true:=by simp;omega
  clear hat hat' hn hm;go_enter Tryz.func62,Tryz.ntmps62;go_wp2;go_ret;refine ⟨ret_bool ?_,Below.refl _ _⟩;rw [HR.out];exact (eqL_len (by rw [←HN.out,←HM.out];exact hlen)).symm
end Go.Proofs.YtophfbefnaelfaaGreatDoor
