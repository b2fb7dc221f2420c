import Derived.Test.YtophfbefnaelfaaGreatDoorM05
import Derived.Test.YtophfbefnaelfaaGreatDoorM04
set_option linter.unusedVariables false
set_option linter.unusedSimpArgs false
set_option maxHeartbeats 64000000
set_option maxRecDepth 100000
namespace Go.Proofs.YtophfbefnaelfaaGreatDoor
open Go.RowKit Go.IntWalk
def deq (a b:De):Bool:=seq a.name b.name&&(a.elem==b.elem)&&eqL teq a.n b.n
theorem deq_refl (a:De):deq a a=true:=by simp [deq,seq_refl,eqL_refl a.n (fun x _=>teq_refl x)]
def HDes (ok:Nat→Prop) (w:World) (v:Value) (l:List De):Prop:=∃ C,Sl ok 3 w v l.length C∧∀ i (h:i<l.length),∃ u,C i=[.string (l[i]).name,.int .u8 (l[i]).elem,u]∧HTerms ok w u (l[i]).n
theorem HDes.keep {ok:Nat→Prop} {w w':World} {v:Value} {l:List De} (h:HDes ok w v l) (hs:w.heap.size≤w'.heap.size) (hk:∀ i,ok i→i<w.heap.size→w'.heap[i]?=w.heap[i]?):HDes ok w' v l:=by
 obtain ⟨C,h1,h2⟩:=h;refine ⟨C,h1.keep hs hk,fun i hi=>?_⟩;obtain ⟨u,e,ht⟩:=h2 i hi;exact ⟨u,e,ht.keep hs hk⟩
theorem HDes.under {ok:Nat→Prop} {w w':World} {v:Value} {l:List De} (h:HDes ok w v l) (a:Below w.heap.size w w'):HDes ok w' v l:=h.keep a.size fun i _ hl=>a.block i hl
theorem HTerms.form {ok:Nat→Prop} {w:World} {v:Value} {l:List Tm} (h:HTerms ok w v l):∃ a n c,v=.slice a n c:=by
 obtain ⟨_,⟨au,cu,rfl,_⟩,_⟩:=h;exact ⟨_,_,_,rfl⟩
theorem HDes.at {ok:Nat→Prop} {w:World} {v:Value} {l:List De} (h:HDes ok w v l) :
  ∃ ao cap,v=.slice ao l.length cap∧l.length≤cap∧cap≤maxLen∧∀ i (h:i<l.length),∃ b o au nu cu,ao=some ⟨b,o,none⟩∧b<w.heap.size∧w.cell? ⟨b,o+i*3,none⟩=some (.string (l[i]).name)∧w.cell? ⟨b,o+i*3+1,none⟩=some (.int .u8 (l[i]).elem)∧w.cell? ⟨b,o+i*3+2,none⟩=some (.slice au nu cu)∧HTerms ok w (.slice au nu cu) (l[i]).n:=by
 obtain ⟨C,⟨ao,cap,hv,h1,h2,h3⟩,hC⟩:=h;refine ⟨ao,cap,hv,h1,h2,fun i hi=>?_⟩;obtain ⟨b,o,ha,hob,hb,hc⟩:=h3 (by omega);obtain ⟨u,hu,ht⟩:=hC i hi;have t0:=(hc i hi).2 0 (by decide);have t1:=(hc i hi).2 1 (by decide);have t2:=(hc i hi).2 2 (by decide);rw [hu] at t0 t1 t2;obtain ⟨au,nu,cu,rfl⟩:=ht.form;exact ⟨b,o,au,nu,cu,ha,hb,by simpa using t0,by simpa using t1,by simpa using t2,ht⟩
theorem sameDecl_any {ok ok':Nat→Prop} {w:World} {a b:De} {au au':Option Addr} {nu cu nu' cu':Nat} (ha:HTerms ok w (.slice au nu cu) a.n) (hb:HTerms ok' w (.slice au' nu' cu') b.n) :
  Calls Tryz.prog 61 #[.agg #[.string a.name,.int .u8 a.elem,.slice au nu cu],.agg #[.string b.name,.int .u8 b.elem,.slice au' nu' cu']] w fun e w'=>e=.returned (.bool (deq a b))∧Below w.heap.size w w':=by
 obtain ⟨R,hR⟩:=nmQ (deq a b);rw [←hR];unfold deq at hR;have hB:∀ o o',Below w.heap.size w ((w.alloc o).alloc o'):=fun o o'=>((Below.refl _ w).alloc nR o).alloc (by simp) o';have hcall:=fun o o'=>sameSize_any (ha.under (hB o o')) (hb.under (hB o o'));obtain ⟨an,ae,al⟩:=a;obtain ⟨bn,be,bl⟩:=b;simp only at hR hcall ⊢;unfold seq at hR
 cases h0:(an.toList==bn.toList)
 ·have:R=false:=by rw [hR,h0];rfl
  subst this;clear hR hcall;go_enter Tryz.func61,Tryz.ntmps61;go_wp2;go_ret;exact ⟨rfl,hB _ _⟩
 ·cases h1:(ae==be)
  ·have:R=false:=by rw [hR,h0,h1];rfl
   subst this;clear hR hcall;go_enter Tryz.func61,Tryz.ntmps61;go_wp2;go_ret;exact ⟨rfl,hB _ _⟩
  ·have h3:R=eqL teq al bl:=by rw [hR,h0,h1];rfl
   subst h3;clear hR;go_enter Tryz.func61,Tryz.ntmps61;go_wp2_with fail;refine (hcall _ _).mono ?_;rintro e w1 ⟨rfl,b1⟩;have hb1:=(hB _ _).trans (b1.mono (by simp;omega));clear hcall;go_wp2;go_ret;exact ⟨rfl,hb1⟩
theorem equalDecls_any {ok ok':Nat→Prop} {w:World} {v u:Value} {l r:List De} (hl:HDes ok w v l) (hr:HDes ok' w u r) :
  Calls Tryz.prog 60 #[v,u,.func (.func 61) #[] #[]] w fun e w'=>e=.returned (.bool (eqL deq l r))∧Below w.heap.size w w':=by
 obtain ⟨ao,cap,rfl,hc1,hc2,hat⟩:=hl.at;obtain ⟨ao',cap',rfl,hd1,hd2,hat'⟩:=hr.at;unfold maxLen at hc2 hd2;obtain ⟨R,hR⟩:=nmQ (eqL deq l r);rw [←hR];have HR:=hide hR;clear hR hl hr;obtain ⟨n,hn⟩:=nmQ (l.length);obtain ⟨m,hm⟩:=nmQ (r.length);rw [←hn] at hc1 ⊢;rw [←hm] at hd1 ⊢;have HN:=hide hn;have HM:=hide hm;by_cases hlen:n=m
 ·subst hlen
  have hq:((n:Int) != (n:Int))=false:=(by simp);clear hn hm;go_enter Tryz.func60,Tryz.ntmps60;go_wp2;go_loopg [17] n (fun k v wr=>∃ i,i≤n∧k=n-i∧v=.int .i64 (i:Nat)∧Hid (∀ j (h:j<l.length) (h':j<r.length),j<i→deq l[j] r[j]=true)∧Below w.heap.size w wr)
  case atStart=>exact ⟨0,Nat.zero_le _,rfl,rfl,fun j _ _ h=>absurd h (Nat.not_lt_zero _),Below.refl _ _⟩
  case round=>
   obtain ⟨i,hi,rfl,rfl,H,hbr⟩:=hrel;by_cases hlt:i<n
   ·have hil:i<l.length:=by have:=HN.out;omega
    have hir:i<r.length:=(by have:=HM.out;omega);obtain ⟨b,o,au,nu,cu,rfl,hb,hc,hd,he,ht⟩:=hat i hil;obtain ⟨b',o',au',nu',cu',rfl,hb',hc',hd',he',ht'⟩:=hat' i hir;have e1:=(hbr.cell (p:=⟨b,o+i*3,none⟩) hb).trans hc;have e2:=(hbr.cell (p:=⟨b',o'+i*3,none⟩) hb').trans hc';have e3:=(hbr.cell (p:=⟨b,o+i*3+1,none⟩) hb).trans hd;have e4:=(hbr.cell (p:=⟨b',o'+i*3+1,none⟩) hb').trans hd';have e5:=(hbr.cell (p:=⟨b,o+i*3+2,none⟩) hb).trans he;have e6:=(hbr.cell (p:=⟨b',o'+i*3+2,none⟩) hb').trans he';have zb:b<wr.heap.size:=Nat.lt_of_lt_of_le hb hbr.size;have zb':b'<wr.heap.size:=Nat.lt_of_lt_of_le hb' hbr.size;have f2:=fun o=>((Below.refl _ wr).alloc nR o).cell (p:=⟨b',o'+i*3,none⟩) zb' |>.trans e2
    have f4:=fun o=>((Below.refl _ wr).alloc nR o).cell (p:=⟨b',o'+i*3+1,none⟩) zb' |>.trans e4
    have f6:=fun o=>((Below.refl _ wr).alloc nR o).cell (p:=⟨b',o'+i*3+2,none⟩) zb' |>.trans e6
    have hB:∀ o o',Below wr.heap.size wr ((wr.alloc o).alloc o'):=fun o o'=>((Below.refl _ wr).alloc nR o).alloc (by simp) o';have g1:=ht.under hbr;have g2:=ht'.under hbr;clear hc hc' hd hd' he he' ht ht';clear hat hat'
    cases hxy:deq l[i] r[i]
    ·
     go_wp2_with fail;refine (sameDecl_any (g1.under (hB _ _)) (g2.under (hB _ _))).mono ?_;rintro e w1 ⟨rfl,b1⟩;rw [hxy]
     all_goals
      have hb1:=hbr.trans (((hB _ _).trans (b1.mono (by simp;omega))).mono hbr.size);go_wp2;go_ret;refine ⟨ret_bool ?_,hb1⟩;rw [HR.out];exact (eqL_bad i hil hir hxy).symm
    ·
     go_wp2_with fail;refine (sameDecl_any (g1.under (hB _ _)) (g2.under (hB _ _))).mono ?_;rintro e w1 ⟨rfl,b1⟩;rw [hxy]
     all_goals
      have hb1:=hbr.trans (((hB _ _).trans (b1.mono (by simp;omega))).mono hbr.size);go_wp2;go_roundg (n-(i+1))
      case measure=>omega
      case rel=>
       refine ⟨i+1,by omega,rfl,by go_num,fun j hj hj' hji=>?_,hb1⟩;by_cases e:j=i
       ·subst e
        exact hxy
       ·exact H.out j hj hj' (by omega)
   ·have hie:i=n:=by omega
    subst hie;clear hat hat';go_wp2;go_ret;refine ⟨ret_bool ?_,hbr⟩;rw [HR.out];exact (eqL_all (by rw [←HN.out,←HM.out]) (fun j hj hj'=>H.out j hj hj' (by rw [HN.out];exact hj))).symm
 ·have hq:((n:Int) != (m:Int))=true:=by simp;omega
  clear hat hat' hn hm;go_enter Tryz.func60,Tryz.ntmps60;go_wp2;go_ret;refine ⟨ret_bool ?_,Below.refl _ _⟩;rw [HR.out];exact (eqL_len (by rw [←HN.out,←HM.out];exact hlen)).symm
theorem refDecls_any {ok ok':Nat→Prop} {w:World} {v u:Value} {l r:List De} (hl:HDes ok w v l) (hr:HDes ok' w u r) :
  Calls Tryz.prog 33 #[v,u] w fun e w'=>e=.returned (.bool (eqL deq l r))∧∃ m,w'=w.drewN m:=by
 obtain ⟨ao,cap,rfl,hc1,hc2,hat⟩:=hl.at;obtain ⟨ao',cap',rfl,hd1,hd2,hat'⟩:=hr.at;unfold maxLen at hc2 hd2;obtain ⟨R,hR⟩:=nmQ (eqL deq l r);rw [←hR];have HR:=hide hR;clear hR hl hr;obtain ⟨n,hn⟩:=nmQ (l.length);obtain ⟨m,hm⟩:=nmQ (r.length);rw [←hn] at hc1 ⊢;rw [←hm] at hd1 ⊢;have HN:=hide hn;have HM:=hide hm;by_cases hlen:n=m
 ·subst hlen
  have hq:((n:Int) != (n:Int))=false:=(by simp);clear hn hm;go_enter Tryz.func33,Tryz.ntmps33;go_wp2;go_loopg [5] n (fun k v wr=>∃ i d,i≤n∧k=n-i∧v=.int .i64 (i:Nat)∧Hid (∀ j (h:j<l.length) (h':j<r.length),j<i→deq l[j] r[j]=true)∧wr=w.drewN d)
  case atStart=>exact ⟨0,0,Nat.zero_le _,rfl,rfl,fun j _ _ h=>absurd h (Nat.not_lt_zero _),rfl⟩
  case round=>
   obtain ⟨i,d,hi,rfl,rfl,H,hW⟩:=hrel;have HW:=hide hW;clear hW;by_cases hlt:i<n
   ·have hil:i<l.length:=by have:=HN.out;omega
    have hir:i<r.length:=(by have:=HM.out;omega);obtain ⟨b,o,au,nu,cu,rfl,hb,hc,hd,he,ht⟩:=hat i hil;obtain ⟨b',o',au',nu',cu',rfl,hb',hc',hd',he',ht'⟩:=hat' i hir;obtain ⟨x,hx⟩:=nmQ (l[i]);obtain ⟨y,hy⟩:=nmQ (r[i]);rw [←hx] at hc hd ht;rw [←hy] at hc' hd' ht';have e1:wr.cell? ⟨b,o+i*3,none⟩=some (.string x.name):=(by rw [HW.out];exact hc);have e2:wr.cell? ⟨b',o'+i*3,none⟩=some (.string y.name):=(by rw [HW.out];exact hc');have e3:wr.cell? ⟨b,o+i*3+1,none⟩=some (.int .u8 x.elem):=(by rw [HW.out];exact hd);have e4:wr.cell? ⟨b',o'+i*3+1,none⟩=some (.int .u8 y.elem):=(by rw [HW.out];exact hd');have e5:wr.cell? ⟨b,o+i*3+2,none⟩=some (.slice au nu cu):=(by rw [HW.out];exact he);have e6:wr.cell? ⟨b',o'+i*3+2,none⟩=some (.slice au' nu' cu'):=(by rw [HW.out];exact he');have hcall:=fun q=>refTerms_any (w:=wr.drewN q) (ht.under (drewN2 HW.out q)) (ht'.under (drewN2 HW.out q));have HX:=hide hx;have HY:=hide hy;clear hc hc' hd hd' he he' ht ht' hx hy;obtain ⟨xn,xe,xl⟩:=x;obtain ⟨yn,ye,yl⟩:=y;simp only at e1 e2 e3 e4 hcall;clear hat hat'
    cases h0:(xn.toList==yn.toList)
    ·
     have hbad:deq l[i] r[i]=false:=(by rw [←HX.out,←HY.out];simp [deq,seq,h0]);have HBAD:=hide hbad;clear hbad;clear hcall;go_wp2_with fail;go_quiet (first | (go_at_call 52;refine Calls.quiet_of (hcall _)));go_wp2;go_ret;refine ⟨ret_bool ?_,_,by rw [HW.out];exact World.drewN_drewN _ _ _⟩;rw [HR.out];exact (eqL_bad i hil hir HBAD.out).symm
    ·
     cases h1:(xe==ye)
     ·
      have hbad:deq l[i] r[i]=false:=(by rw [←HX.out,←HY.out];simp [deq,seq,h0,h1]);have HBAD:=hide hbad;clear hbad;clear hcall;have k1:(xe != ye)=true:=(by rw [bne,h1];rfl);go_wp2_with fail;go_quiet (first | (go_at_call 52;refine Calls.quiet_of (hcall _)));go_wp2;go_ret;refine ⟨ret_bool ?_,_,by rw [HW.out];exact World.drewN_drewN _ _ _⟩;rw [HR.out];exact (eqL_bad i hil hir HBAD.out).symm
     ·
      have k1:(xe != ye)=false:=(by rw [bne,h1];rfl)
      cases h2:eqL teq xl yl
      ·
       have hbad:deq l[i] r[i]=false:=(by rw [←HX.out,←HY.out];simp [deq,seq,h0,h1,h2]);have HBAD:=hide hbad;clear hbad;rw [h2] at hcall;go_wp2_with fail;go_quiet (first | (go_at_call 52;refine Calls.quiet_of (hcall _)));go_wp2;go_ret;refine ⟨ret_bool ?_,_,by rw [HW.out];exact World.drewN_drewN _ _ _⟩;rw [HR.out];exact (eqL_bad i hil hir HBAD.out).symm
      ·
       rw [h2] at hcall;have hall:deq l[i] r[i]=true:=(by rw [←HX.out,←HY.out];simp [deq,seq,h0,h1,h2]);have HALL:=hide hall;clear hall;go_wp2_with fail;go_quiet (first | (go_at_call 52;refine Calls.quiet_of (hcall _)));go_wp2;go_roundg (n-(i+1))
       case measure=>omega
       case rel=>
        refine ⟨i+1,_,by omega,rfl,by go_num,fun j hj hj' hji=>?_,by rw [HW.out];exact World.drewN_drewN _ _ _⟩;by_cases e:j=i
        ·subst e
         exact HALL.out
        ·exact H.out j hj hj' (by omega)
   ·have hie:i=n:=by omega
    subst hie;clear hat hat';go_wp2;go_ret;refine ⟨ret_bool ?_,_,HW.out⟩;rw [HR.out];exact (eqL_all (by rw [←HN.out,←HM.out]) (fun j hj hj'=>H.out j hj hj' (by rw [HN.out];exact hj))).symm
 ·have hq:((n:Int) != (m:Int))=true:=by simp;omega
  clear hat hat' hn hm;go_enter Tryz.func33,Tryz.ntmps33;go_wp2;go_ret;refine ⟨ret_bool ?_,0,rfl⟩;rw [HR.out];exact (eqL_len (by rw [←HN.out,←HM.out];exact hlen)).symm
end Go.Proofs.YtophfbefnaelfaaGreatDoor
namespace Go.Proofs.YtophfbefnaelfaaGreatDoor
open Go.RowKit Go.IntWalk
mutual
def xeq:Ex→Ex→Bool
 | .mk o k n s S L,.mk o' k' n' s' S' L'=>(o==o')&&(k==k')&&(n==n')&&seq s s'&&eqL (eqL teq) S S'&&xeqs L L'
def xeqs:List Ex→List Ex→Bool
 | [],[]=>true
 | a :: l,b :: r=>xeq a b&&xeqs l r
 | _,_=>false
end
theorem xeqs_eq:∀ l r:List Ex,xeqs l r=eqL xeq l r
 | [],[]=>by simp [xeqs,eqL]
 | [],_ :: _=>by simp [xeqs,eqL]
 | _ :: _,[]=>by simp [xeqs,eqL]
 | a :: l,b :: r=>by simp [xeqs,eqL,xeqs_eq l r]
theorem szeq_refl (S:List (List Tm)):eqL (eqL teq) S S=true:=eqL_refl S fun x _=>eqL_refl x fun y _=>teq_refl y
mutual
theorem xeq_refl:∀ e:Ex,xeq e e=true
 | .mk o k n s S L=>by simp [xeq,seq_refl,szeq_refl,xeqs_refl L]
theorem xeqs_refl:∀ l:List Ex,xeqs l l=true
 | []=>by simp [xeqs]
 | a :: l=>by simp [xeqs,xeq_refl a,xeqs_refl l]
end
def HExs (ok:Nat→Prop) (w:World) (v:Value) (L:List Ex):Prop:=∃ C,Sl ok 6 w v L.length C∧∀ i (h:i<L.length),HEx ok w (C i) L[i]
theorem HExs.keep {ok:Nat→Prop} {w w':World} {v:Value} {l:List Ex} (h:HExs ok w v l) (hs:w.heap.size≤w'.heap.size) (hk:∀ i,ok i→i<w.heap.size→w'.heap[i]?=w.heap[i]?):HExs ok w' v l:=by
 obtain ⟨C,h1,h2⟩:=h;exact ⟨C,h1.keep hs hk,fun i hi=>(h2 i hi).keep hs hk⟩
theorem HExs.under {ok:Nat→Prop} {w w':World} {v:Value} {l:List Ex} (h:HExs ok w v l) (a:Below w.heap.size w w'):HExs ok w' v l:=h.keep a.size fun i _ hl=>a.block i hl
theorem HExs.at {ok:Nat→Prop} {w:World} {v:Value} {L:List Ex} (h:HExs ok w v L) :
  ∃ ao cap,v=.slice ao L.length cap∧L.length≤cap∧cap≤maxLen∧∀ i (h:i<L.length),∃ b o y,ao=some ⟨b,o,none⟩∧ok b∧b<w.heap.size∧ExAt w b (o+i*6) y∧HEx ok w y.cells L[i]:=by
 obtain ⟨C,h1,h2⟩:=h;exact h1.exAt h2
theorem HEx.parts {ok:Nat→Prop} {w:World} {x:ExV} {e:Ex} (h:HEx ok w x.cells e):x.op=e.op∧x.k=e.k∧x.n=e.n∧x.name=e.name∧HSizes ok w (.slice x.aS x.nS x.cS) e.S∧HExs ok w (.slice x.aL x.nL x.cL) e.L:=by
 obtain ⟨o,k,n,s,a,b,c,d,f,g⟩:=x
 cases h with
 | mk C hS hL hE=>exact ⟨rfl,rfl,rfl,rfl,hS,C,hL,hE⟩
def ComparesR (q:Nat):Prop:=∀ (ok ok':Nat→Prop) (w:World) (v u:Value) (l r:List Ex),partsL l<q→HExs ok w v l→HExs ok' w u r →
 Calls Tryz.prog 35 #[v,u] w fun e w'=>e=.returned (.bool (eqL xeq l r))∧∃ m,w'=w.drewN m
end Go.Proofs.YtophfbefnaelfaaGreatDoor
namespace Go.Proofs.YtophfbefnaelfaaGreatDoor
open Go.RowKit Go.IntWalk
def qeq (a b:Eqn):Bool:=eqL seq a.names b.names&&seq a.node b.node&&eqL (eqL teq) a.S b.S&&eqL xeq a.E b.E
structure EqV where
 place:Int
 aN:Option Addr
 nN:Nat
 cN:Nat
 node:ByteArray
 aS:Option Addr
 nS:Nat
 cS:Nat
 aE:Option Addr
 nE:Nat
 cE:Nat
def EqV.cells (x:EqV):List Value:=[.int .i64 x.place,.slice x.aN x.nN x.cN,.string x.node,.slice x.aS x.nS x.cS,.slice x.aE x.nE x.cE]
structure HEq (ok:Nat→Prop) (w:World) (x:EqV) (q:Eqn):Prop where
 place:x.place=q.place
 names:HNames ok w (.slice x.aN x.nN x.cN) q.names
 node:x.node=q.node
 S:HSizes ok w (.slice x.aS x.nS x.cS) q.S
 E:HExs ok w (.slice x.aE x.nE x.cE) q.E
theorem HEq.keep {ok:Nat→Prop} {w w':World} {x:EqV} {q:Eqn} (h:HEq ok w x q) (hs:w.heap.size≤w'.heap.size) (hk:∀ i,ok i→i<w.heap.size→w'.heap[i]?=w.heap[i]?):HEq ok w' x q :=
 ⟨h.place,h.names.keep hs hk,h.node,h.S.keep hs hk,h.E.keep hs hk⟩
theorem HEq.under {ok:Nat→Prop} {w w':World} {x:EqV} {q:Eqn} (h:HEq ok w x q) (a:Below w.heap.size w w'):HEq ok w' x q:=h.keep a.size fun i _ hl=>a.block i hl
def EqAt (w:World) (b o:Nat) (y:EqV):Prop :=
 w.cell? ⟨b,o,none⟩=some (.int .i64 y.place)∧w.cell? ⟨b,o+1,none⟩=some (.slice y.aN y.nN y.cN)∧w.cell? ⟨b,o+2,none⟩=some (.string y.node) ∧
 w.cell? ⟨b,o+3,none⟩=some (.slice y.aS y.nS y.cS)∧w.cell? ⟨b,o+4,none⟩=some (.slice y.aE y.nE y.cE)
theorem EqAt.keep {w w':World} {b o:Nat} {y:EqV} (h:EqAt w b o y) (hb:w'.heap[b]?=w.heap[b]?):EqAt w' b o y:=by
 have hc:∀ q,w'.cell? ⟨b,q,none⟩=w.cell? ⟨b,q,none⟩:=fun q=>World.cell?_of_block (w:=w) hb;obtain ⟨h0,h1,h2,h3,h4⟩:=h;exact ⟨(hc _).trans h0,(hc _).trans h1,(hc _).trans h2,(hc _).trans h3,(hc _).trans h4⟩
def HEqs (ok:Nat→Prop) (w:World) (v:Value) (l:List Eqn):Prop:=∃ C,Sl ok 5 w v l.length C∧∀ i (h:i<l.length),∃ x,C i=x.cells∧HEq ok w x l[i]
theorem HEqs.keep {ok:Nat→Prop} {w w':World} {v:Value} {l:List Eqn} (h:HEqs ok w v l) (hs:w.heap.size≤w'.heap.size) (hk:∀ i,ok i→i<w.heap.size→w'.heap[i]?=w.heap[i]?):HEqs ok w' v l:=by
 obtain ⟨C,h1,h2⟩:=h;refine ⟨C,h1.keep hs hk,fun i hi=>?_⟩;obtain ⟨x,e,hx⟩:=h2 i hi;exact ⟨x,e,hx.keep hs hk⟩
theorem HEqs.under {ok:Nat→Prop} {w w':World} {v:Value} {l:List Eqn} (h:HEqs ok w v l) (a:Below w.heap.size w w'):HEqs ok w' v l:=h.keep a.size fun i _ hl=>a.block i hl
theorem HEqs.at {ok:Nat→Prop} {w:World} {v:Value} {l:List Eqn} (h:HEqs ok w v l) :
  ∃ ao cap,v=.slice ao l.length cap∧l.length≤cap∧cap≤maxLen∧∀ i (h:i<l.length),∃ b o y,ao=some ⟨b,o,none⟩∧b<w.heap.size∧EqAt w b (o+i*5) y∧HEq ok w y l[i]:=by
 obtain ⟨C,⟨ao,cap,hv,h1,h2,h3⟩,hC⟩:=h;refine ⟨ao,cap,hv,h1,h2,fun i hi=>?_⟩;obtain ⟨b,o,ha,hob,hb,hc⟩:=h3 (by omega);obtain ⟨x,hx,hq⟩:=hC i hi;have hcc:=(hc i hi).2;rw [hx] at hcc;exact ⟨b,o,x,ha,hb,⟨hcc 0 (by decide),hcc 1 (by decide),hcc 2 (by decide),hcc 3 (by decide),hcc 4 (by decide)⟩,hq⟩
def neq (a b:Nd):Bool:=seq a.name b.name&&(eqL seq a.sizes b.sizes&&(eqL deq a.inn b.inn&&(eqL deq a.out b.out&&(eqL deq a.loc b.loc&&eqL qeq a.eqs b.eqs))))
structure NdV where
 name:ByteArray
 place:Int
 a2:Option Addr
 n2:Nat
 c2:Nat
 a3:Option Addr
 n3:Nat
 c3:Nat
 a4:Option Addr
 n4:Nat
 c4:Nat
 a5:Option Addr
 n5:Nat
 c5:Nat
 a6:Option Addr
 n6:Nat
 c6:Nat
def NdV.cells (x:NdV):List Value:=[.string x.name,.int .i64 x.place,.slice x.a2 x.n2 x.c2,.slice x.a3 x.n3 x.c3,.slice x.a4 x.n4 x.c4,.slice x.a5 x.n5 x.c5,.slice x.a6 x.n6 x.c6]
structure HNd (ok:Nat→Prop) (w:World) (x:NdV) (n:Nd):Prop where
 name:x.name=n.name
 place:x.place=n.place
 sizes:HNames ok w (.slice x.a2 x.n2 x.c2) n.sizes
 inn:HDes ok w (.slice x.a3 x.n3 x.c3) n.inn
 out:HDes ok w (.slice x.a4 x.n4 x.c4) n.out
 loc:HDes ok w (.slice x.a5 x.n5 x.c5) n.loc
 eqs:HEqs ok w (.slice x.a6 x.n6 x.c6) n.eqs
theorem HNd.keep {ok:Nat→Prop} {w w':World} {x:NdV} {n:Nd} (h:HNd ok w x n) (hs:w.heap.size≤w'.heap.size) (hk:∀ i,ok i→i<w.heap.size→w'.heap[i]?=w.heap[i]?):HNd ok w' x n :=
 ⟨h.name,h.place,h.sizes.keep hs hk,h.inn.keep hs hk,h.out.keep hs hk,h.loc.keep hs hk,h.eqs.keep hs hk⟩
theorem HNd.under {ok:Nat→Prop} {w w':World} {x:NdV} {n:Nd} (h:HNd ok w x n) (a:Below w.heap.size w w'):HNd ok w' x n:=h.keep a.size fun i _ hl=>a.block i hl
def NdAt (w:World) (b o:Nat) (y:NdV):Prop :=
 w.cell? ⟨b,o,none⟩=some (.string y.name)∧w.cell? ⟨b,o+1,none⟩=some (.int .i64 y.place)∧w.cell? ⟨b,o+2,none⟩=some (.slice y.a2 y.n2 y.c2)∧w.cell? ⟨b,o+3,none⟩=some (.slice y.a3 y.n3 y.c3) ∧
 w.cell? ⟨b,o+4,none⟩=some (.slice y.a4 y.n4 y.c4)∧w.cell? ⟨b,o+5,none⟩=some (.slice y.a5 y.n5 y.c5)∧w.cell? ⟨b,o+6,none⟩=some (.slice y.a6 y.n6 y.c6)
theorem NdAt.keep {w w':World} {b o:Nat} {y:NdV} (h:NdAt w b o y) (hb:w'.heap[b]?=w.heap[b]?):NdAt w' b o y:=by
 have hc:∀ q,w'.cell? ⟨b,q,none⟩=w.cell? ⟨b,q,none⟩:=fun q=>World.cell?_of_block (w:=w) hb;obtain ⟨h0,h1,h2,h3,h4,h5,h6⟩:=h;exact ⟨(hc _).trans h0,(hc _).trans h1,(hc _).trans h2,(hc _).trans h3,(hc _).trans h4,(hc _).trans h5,(hc _).trans h6⟩
def HNds (ok:Nat→Prop) (w:World) (v:Value) (l:List Nd):Prop:=∃ C,Sl ok 7 w v l.length C∧∀ i (h:i<l.length),∃ x,C i=x.cells∧HNd ok w x l[i]
theorem HNds.keep {ok:Nat→Prop} {w w':World} {v:Value} {l:List Nd} (h:HNds ok w v l) (hs:w.heap.size≤w'.heap.size) (hk:∀ i,ok i→i<w.heap.size→w'.heap[i]?=w.heap[i]?):HNds ok w' v l:=by
 obtain ⟨C,h1,h2⟩:=h;refine ⟨C,h1.keep hs hk,fun i hi=>?_⟩;obtain ⟨x,e,hx⟩:=h2 i hi;exact ⟨x,e,hx.keep hs hk⟩
theorem HNds.under {ok:Nat→Prop} {w w':World} {v:Value} {l:List Nd} (h:HNds ok w v l) (a:Below w.heap.size w w'):HNds ok w' v l:=h.keep a.size fun i _ hl=>a.block i hl
theorem HNds.at {ok:Nat→Prop} {w:World} {v:Value} {l:List Nd} (h:HNds ok w v l) :
  ∃ ao cap,v=.slice ao l.length cap∧l.length≤cap∧cap≤maxLen∧∀ i (h:i<l.length),∃ b o y,ao=some ⟨b,o,none⟩∧b<w.heap.size∧NdAt w b (o+i*7) y∧HNd ok w y l[i]:=by
 obtain ⟨C,⟨ao,cap,hv,h1,h2,h3⟩,hC⟩:=h;refine ⟨ao,cap,hv,h1,h2,fun i hi=>?_⟩;obtain ⟨b,o,ha,hob,hb,hc⟩:=h3 (by omega);obtain ⟨x,hx,hq⟩:=hC i hi;have hcc:=(hc i hi).2;rw [hx] at hcc;exact ⟨b,o,x,ha,hb,⟨hcc 0 (by decide),hcc 1 (by decide),hcc 2 (by decide),hcc 3 (by decide),hcc 4 (by decide),hcc 5 (by decide),hcc 6 (by decide)⟩,hq⟩
end Go.Proofs.YtophfbefnaelfaaGreatDoor
