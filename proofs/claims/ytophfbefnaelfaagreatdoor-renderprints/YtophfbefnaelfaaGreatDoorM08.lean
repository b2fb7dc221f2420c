import Derived.Test.YtophfbefnaelfaaGreatDoorM07
import Derived.Deep.Slices
import GoSem.ClaimJoined
set_option linter.unusedVariables false
set_option linter.unusedSimpArgs false
set_option maxHeartbeats 64000000
set_option maxRecDepth 100000
namespace Go.Proofs.YtophfbefnaelfaaGreatDoor
open Go.RowKit Go.IntWalk
inductive FitX:Ex→Prop
 | mk {o k n:Int} {s:ByteArray} {S:List (List Tm)} {L:List Ex} (hS:FitS S) (hL:L.length*88≤140737488355328) (hE:∀ i (h:i<L.length),FitX L[i]):FitX (.mk o k n s S L)
def FitXs (L:List Ex):Prop:=L.length*88≤140737488355328∧∀ i (h:i<L.length),FitX L[i]
theorem FitX.parts {e:Ex} (h:FitX e):FitS e.S∧FitXs e.L:=by
 cases h with
 | mk hS hL hE=>exact ⟨hS,hL,hE⟩
theorem HEx.make {ok:Nat→Prop} {w:World} {x:ExV} {e:Ex} (h1:x.op=e.op) (h2:x.k=e.k) (h3:x.n=e.n) (h4:x.name=e.name) (hS:HSizes ok w (.slice x.aS x.nS x.cS) e.S) (hL:HExs ok w (.slice x.aL x.nL x.cL) e.L):HEx ok w x.cells e:=by
 obtain ⟨o,k,n,s,S,L⟩:=e;obtain ⟨xo,xk,xn,xs,a,b,c,d,f,g⟩:=x;simp only [Ex.op,Ex.k,Ex.n,Ex.name,Ex.S,Ex.L] at h1 h2 h3 h4 hS hL;subst h1 h2 h3 h4;obtain ⟨C,hl,hE⟩:=hL;exact .mk C hS hl hE
theorem HExs.wide {ok ok':Nat→Prop} {w:World} {v:Value} {l:List Ex} (h:HExs ok w v l) (hk:∀ i,ok i→i<w.heap.size→ok' i):HExs ok' w v l:=by
 obtain ⟨C,h1,h2⟩:=h;exact ⟨C,h1.wide hk,fun i hi=>(h2 i hi).wide hk⟩
theorem HSizes.set {ok:Nat→Prop} {w:World} {v:Value} {l:List (List Tm)} (h:HSizes ok w v l) {p:Addr} (hp:¬ok p.block) (u:Value):HSizes ok (w.setCell p u) v l :=
 h.keep (by simp [World.setCell]) fun i hi hl=>Below.heap_setCell _ _ _ _ (fun e=>hp (e ▸ hi))
theorem HExs.set {ok:Nat→Prop} {w:World} {v:Value} {l:List Ex} (h:HExs ok w v l) {p:Addr} (hp:¬ok p.block) (u:Value):HExs ok (w.setCell p u) v l :=
 h.keep (by simp [World.setCell]) fun i hi hl=>Below.heap_setCell _ _ _ _ (fun e=>hp (e ▸ hi))
theorem new6s (w:World) (p:Addr) (q a b c d e f:Value) (t:TypeId):∀ j u,[a,b,c,d,e,f][j]?=some u→((w.setCell p q).alloc (.cells #[a,b,c,d,e,f] t)).cell? ((⟨w.heap.size,0,none⟩:Addr).add j)=some u:=by
 intro j u hj;have hn:=heap_new (w.setCell p q) (.cells #[a,b,c,d,e,f] t (0,0));rw [size_set] at hn;have adds:(⟨w.heap.size,0,none⟩:Addr).add j=⟨w.heap.size,j,none⟩:=by unfold Addr.add;split<;>simp_all
 rw [adds,co hn];rw [gT];exact hj
theorem Tryz.info88:(Tryz.prog.info? 88).map (fun i=>(i.zero,i.size,i.bytes))=some (some (.agg #[.int .i64 0,.int .i64 0,.int .i64 0,.string ⟨#[]⟩,.slice none 0 0,.slice none 0 0]),6,88):=by kernel_rfl
def Copies (q:Nat):Prop:=∀ (ok:Nat→Prop) (w:World) (v:Value) (l:List Ex),partsL l<q→HExs ok w v l→FitXs l →
 Calls Tryz.prog 25 #[v] w fun e w'=>∃ a n c,e=.returned (.slice a n c)∧HExs (fun i=>w.heap.size≤i) w' (.slice a n c) l∧Below w.heap.size w w'
theorem copyExprs_step (q:Nat) (HI:Copies q):Copies (q+1):=by
 intro ok w v l hqq hl hM;have HQ:=hide hqq;clear hqq;obtain ⟨i1,hi1,hy0,hy1,hy2⟩:=info_parts Tryz.info88;obtain ⟨ao,cap,rfl,hc1,hc2,hat⟩:=hl.at;unfold maxLen at hc2;have HM:=hide hM.2;have hM1:=hM.1;obtain ⟨n,hn⟩:=nmQ (l.length);rw [←hn] at hc1 hM1 ⊢;have HN:=hide hn;clear hn hM hl;go_enter Tryz.func25,Tryz.ntmps25;go_wp2;go_loopg [3,4] n (fun k v3 v wr=>∃ (i:Nat) (D:Nat→List Value),i≤n∧k=n-i∧v=.int .i64 (i:Nat)∧wr.ownsRow w.heap.size 88 6 v3 i (flat D i)∧Hid (∀ j (h:j<l.length),j<i→HEx (Off w.heap.size v3) wr (D j) l[j])∧Below w.heap.size w wr)
 case atStart=>exact ⟨0,fun _=>[],Nat.zero_le _,rfl,rfl,World.ownsRow_nil _ _ _ _,fun j _ h=>absurd h (Nat.not_lt_zero _),Below.refl _ _⟩
 case round=>
  obtain ⟨i,D,hile,rfl,rfl,hown,H,hbr⟩:=hrel;by_cases hlt:i<n
  ·have hil:i<l.length:=by have:=HN.out;omega
   obtain ⟨b,o,x,rfl,_,hb,hxa,hx⟩:=hat i hil;obtain ⟨e0,e1,e2,e3,e4,e5⟩:=hxa.keep (hbr.block b hb);obtain ⟨g1,g2,g3,g4,xS,xL⟩:=(hx.under hbr).parts;obtain ⟨fS,fL⟩:=(HM.out i hil).parts;have hqi:partsL (l[i]).L<q:=by
    have h1:=Nat.lt_of_le_of_lt (parts_mem l i hil) HQ.out;obtain ⟨p,hp⟩:=nmQ (l[i]);rw [←hp] at h1 ⊢;obtain ⟨p1,p2,p3,p4,p5,p6⟩:=p;rw [parts] at h1;simp only [Ex.L];omega
   have G1:=hide g1;have G2:=hide g2;have G3:=hide g3;have G4:=hide g4;clear hat hx hxa g1 g2 g3 g4;have zr:=hbr.size;have bW1:Below wr.heap.size wr (wr.alloc (.cells #[.int .i64 x.op,.int .i64 x.k,.int .i64 x.n,.string x.name,.slice x.aS x.nS x.cS,.slice x.aL x.nL x.cL] 88 (0,0))):=(Below.refl _ wr).alloc nR _;have kW1:=heap_new wr (.cells #[.int .i64 x.op,.int .i64 x.k,.int .i64 x.n,.string x.name,.slice x.aS x.nS x.cS,.slice x.aL x.nL x.cL] 88 (0,0));have hnob:u3.ownBlock≠some wr.heap.size:=fun e=>by
    have:=World.ownsRow.lt hown _ e;omega
   go_wp2_with fail;refine (copySizes_any (xS.under bW1) fS).mono ?_;rintro e w2 ⟨a2,n2,c2,rfl,hS2,b2⟩;have z2:wr.heap.size+1≤w2.heap.size:=(by simpa using b2.size);have k2:=(aside b2 (S:=[])).keep kW1 (lt_of kW1) (by simp);have s4:=co k2 4;have s5:=co k2 5;have fr2:=fun o=>fo k2 o;simp at s4 s5;have bW2:=(bW1.trans (b2.mono (by simp))).setCell (p:=⟨wr.heap.size,4,none⟩) nR (.slice a2 n2 c2);have hS2':=(hS2.set (p:=⟨wr.heap.size,4,none⟩) (by simp) (.slice a2 n2 c2));clear e0 e1 e2 e3 e4 e5;go_wp2_with fail;refine (HI _ _ _ _ hqi (xL.under bW2) fL).mono ?_;rintro e w3 ⟨a3,n3,c3,rfl,hL3,b3⟩;rw [size_set] at b3 hL3;have z3:w2.heap.size≤w3.heap.size:=(by have:=b3.size;rw [size_set] at this;exact this);have k3:=(aside b3 (S:=[])).keep (set_in k2 4 (.slice a2 n2 c2)) (by omega) (by simp);simp at k3;have t0:=co k3 0;have t1:=co k3 1;have t2:=co k3 2;have t3:=co k3 3;have t4:=co k3 4;have t5:=co k3 5;have fr3:=fun o=>fo k3 o;simp at t0 t1 t2 t3 t4 t5;have bW3:Below wr.heap.size wr w3:=bW2.trans (b3.mono (by omega));have hS3:HSizes (fun k=>wr.heap.size+1≤k) w3 (.slice a2 n2 c2) (l[i]).S:=by
    have h8:=(hS2'.wide (ok':=fun k=>wr.heap.size+1≤k) (fun k hk _=>by simpa using hk));exact h8.keep (by rw [size_set];exact z3) (fun k _ hl=>b3.block k (by rw [size_set] at hl;exact hl))
   have hown3:=(owns_set (p:=⟨wr.heap.size,5,none⟩) (ownsRow_below hown bW3) hnob (.slice a3 n3 c3)).alloc (.cells #[.int .i64 x.op,.int .i64 x.k,.int .i64 x.n,.string x.name,.slice a2 n2 c2,.slice a3 n3 c3] 88 (0,0));clear s4 s5 fr2
   go_wp2_with (at_builtin;refine wpList_push rfl _ _ 47 rfl w.heap.size 88 i1 (.agg #[.int .i64 0,.int .i64 0,.int .i64 0,.string ⟨#[]⟩,.slice none 0 0,.slice none 0 0]) 6 88 Tryz.underlying47 hi1 hy0 hy1 hy2 rfl (by decide) _ _ _ rfl hown3 ⟨w3.heap.size,0,none⟩ 1 1 [.int .i64 x.op,.int .i64 x.k,.int .i64 x.n,.string x.name,.slice a2 n2 c2,.slice a3 n3 c3] rfl rfl (new6s _ _ _ _ _ _ _ _ _ _) (by intro u hu;simp at hu;rcases hu with rfl | rfl | rfl | rfl | rfl | rfl<;>rfl) (by unfold maxLen;omega) (by omega) (by simp [World.setCell];omega) ?_;intro v4 w4 hown4 hgrow hmv)
   obtain ⟨W4,hW4⟩:∃ W,W=(w3.setCell ⟨wr.heap.size,5,none⟩ (.slice a3 n3 c3)).alloc (.cells #[.int .i64 x.op,.int .i64 x.k,.int .i64 x.n,.string x.name,.slice a2 n2 c2,.slice a3 n3 c3] 88 (0,0)):=⟨_,rfl⟩;have y4:W4.heap.size=w3.heap.size+1:=(by rw [hW4];simp [World.setCell]);rw [←hW4] at hown3 hgrow hmv;have hmv':Moved W4 u3 v4:=hmv;have bW4:Below wr.heap.size wr W4:=by
    rw [hW4];exact (bW3.setCell nR _).alloc (by rw [size_set];omega) _
   have hgk:=grown_keep (B:=w.heap.size) (v:=u3) hgrow;have b4:=Below.push (B:=w.heap.size) (hbr.trans (bW4.mono hbr.size)) (by omega) hown3 hgrow;have hS4:HSizes (fun k=>wr.heap.size+1≤k) W4 (.slice a2 n2 c2) (l[i]).S:=by
    rw [hW4];exact (hS3.set (p:=⟨wr.heap.size,5,none⟩) (by simp) _).under ((Below.refl _ _).alloc nR _)
   have hL4:HExs (fun k=>wr.heap.size+1≤k) W4 (.slice a3 n3 c3) (l[i]).L:=by
    rw [hW4];exact ((hL3.wide (ok':=fun k=>wr.heap.size+1≤k) (fun k hk _=>by omega)).set (p:=⟨wr.heap.size,5,none⟩) (by simp) _).under ((Below.refl _ _).alloc nR _)
   have hX4:HEx (fun k=>wr.heap.size+1≤k) W4 [.int .i64 x.op,.int .i64 x.k,.int .i64 x.n,.string x.name,.slice a2 n2 c2,.slice a3 n3 c3] l[i]:=HEx.make (x:=⟨x.op,x.k,x.n,x.name,a2,n2,c2,a3,n3,c3⟩) G1.out G2.out G3.out G4.out hS4 hL4;have hown5:w4.ownsRow w.heap.size 88 6 v4 (i+1) (flat (fun q=>if q=i then [.int .i64 x.op,.int .i64 x.k,.int .i64 x.n,.string x.name,.slice a2 n2 c2,.slice a3 n3 c3] else D q) (i+1)):=by
    have e:flat (fun q=>if q=i then [.int .i64 x.op,.int .i64 x.k,.int .i64 x.n,.string x.name,.slice a2 n2 c2,.slice a3 n3 c3] else D q) (i+1)=flat D i++[.int .i64 x.op,.int .i64 x.k,.int .i64 x.n,.string x.name,.slice a2 n2 c2,.slice a3 n3 c3]:=by
     rw [flat,flat_congr (D:=D) i (fun q hq=>by rw [if_neg (by omega)])];simp
    rw [e];exact hown4
   have hnewT:HEx (Off w.heap.size v4) w4 [.int .i64 x.op,.int .i64 x.k,.int .i64 x.n,.string x.name,.slice a2 n2 c2,.slice a3 n3 c3] l[i]:=by
    have g1:=hX4.wide (ok':=fun k=>Off w.heap.size u3 k∧k<W4.heap.size) (fun k hk hl=>⟨Off.new hown nR hbr.size (by omega),hl⟩);have g2:=g1.keep hgrow.size (fun k hk hl=>hgk k hk.1 hl);exact g2.wide (fun k hk _=>Off.moved hmv' hk.1 hk.2)
   have holdT:Hid (∀ j (h:j<l.length),j<i→HEx (Off w.heap.size v4) w4 (D j) l[j]):=fun j hj hji=>by
    have g1:=((H.out j hj hji).wide (ok':=fun k=>Off w.heap.size u3 k∧k<wr.heap.size) (fun k hk hl=>⟨hk,hl⟩)).under bW4;have g2:=g1.keep hgrow.size (fun k hk hl=>hgk k hk.1 hl);exact g2.wide (fun k hk _=>Off.moved hmv' hk.1 (by omega))
   clear hown4 hgrow hmv hown3 H hgk hS4 hL4 hX4 t0 t1 t2 t3 t4 t5 fr3 k3 k2 hS3 hL3 hS2 hS2';go_wp2;go_roundg (n-(i+1))
   case measure=>omega
   case rel=>
    refine ⟨i+1,_,by omega,rfl,by go_num,hown5,fun j hj hji=>?_,b4⟩;by_cases e:j=i
    ·subst e
     simpa using hnewT
    ·have hT:=holdT.out j hj (by omega)
     simpa [e] using hT
  ·have hie:i=n:=by omega
   subst hie;clear hat;have h9:=HN.out;have hs:=owns_sl hown (fun j hj=>by obtain ⟨y,hy,_⟩:=(H.out j (by omega) hj).toV;rw [hy];rfl);have hs':=hs;obtain ⟨a5,c5,rfl,_⟩:=hs';go_wp2;go_ret;refine ⟨_,_,_,rfl,⟨D,?_,fun j hj=>?_⟩,hbr⟩
   ·rw [←HN.out];exact hs
   ·exact (H.out j hj (by rw [HN.out];exact hj)).wide (fun k hk _=>hk.1)
theorem copies:∀ q,Copies q
 | 0=>fun _ _ _ _ h=>absurd h (Nat.not_lt_zero _)
 | q+1=>copyExprs_step q (copies q)
theorem copyExprs_any {ok:Nat→Prop} {w:World} {v:Value} {l:List Ex} (hl:HExs ok w v l) (hM:FitXs l) :
  Calls Tryz.prog 25 #[v] w fun e w'=>∃ a n c,e=.returned (.slice a n c)∧HExs (fun i=>w.heap.size≤i) w' (.slice a n c) l∧Below w.heap.size w w':=copies (partsL l+1) _ _ _ _ (Nat.lt_succ_self _) hl hM
end Go.Proofs.YtophfbefnaelfaaGreatDoor
namespace Go.Proofs.YtophfbefnaelfaaGreatDoor
open Go.RowKit Go.IntWalk Go.Deep
section
variable {H:Type} {enc:TypeId × Value→H} {w:World}
theorem all_append {l r:List Nat} (h:(l++r).all (·≤reachBytes)=true):l.all (·≤reachBytes)=true∧r.all (·≤reachBytes)=true:=by
 simpa [List.all_append] using h
theorem weightsAll_at {P:Program} {e:TypeId}:∀ (l:List (DataW H)) (h:(DataW.weightsAll P e l).all (·≤reachBytes)=true) (i:Nat) (hi:i<l.length),((l[i]).weights P e).all (·≤reachBytes)=true
 | [],_,i,hi=>by simp at hi
 | d :: l,h,0,_=>by rw [DataW.weightsAll] at h;exact (all_append h).1
 | d :: l,h,i+1,hi=>by rw [DataW.weightsAll] at h;exact weightsAll_at l (all_append h).2 i (by simpa using hi)
theorem weightsEach_at {P:Program}:∀ (ts:List TypeId) (l:List (DataW H)) (h:(DataW.weightsEach P ts l).all (·≤reachBytes)=true) (i:Nat) (t:TypeId) (d:DataW H),ts[i]?=some t→l[i]?=some d→(d.weights P t).all (·≤reachBytes)=true
 | [],_,_,i,_,_,h1,_=>by simp at h1
 | _ :: _,[],_,i,_,_,_,h2=>by simp at h2
 | a :: ts,d :: l,h,0,_,_,h1,h2=>by
  rw [DataW.weightsEach] at h;simp at h1 h2;subst h1 h2;exact (all_append h).1
 | a :: ts,d :: l,h,i+1,t,x,h1,h2=>by
  rw [DataW.weightsEach] at h;exact weightsEach_at ts l (all_append h).2 i t x (by simpa using h1) (by simpa using h2)
theorem add_none {a:Addr} (h:a.spot=none) (q:Nat):a.add q=⟨a.block,a.off+q,none⟩:=by
 obtain ⟨b,o,s⟩:=a;simp only at h;subst h;unfold Addr.add
 split<;>simp_all
theorem spot_none {w:World} {a:Addr} {v:Value} (h:w.cell? a=some v):a.spot=none∧a.block<w.heap.size:=by
 unfold World.cell? at h
 split at h
 ·rename_i hh
  refine ⟨?_,(Array.getElem?_eq_some_iff.1 hh).1⟩
  cases hs:a.spot with
  | none=>rfl
  | some s=>rw [hs] at h;simp at h
 ·cases h
theorem open_row {t e:TypeId} {k bytes fuel:Nat} {cs:List Value} {x:DataW H × List MemPlace} (ht:Tryz.prog.underlying t=some (.slice e)) (hk:Tryz.prog.cellsOf e=k) (hk0:0<k) (hby:Tryz.prog.bytesOf e=bytes)
  (h:DataW.trod enc Tryz.prog w 0 (fun _=>true) true fuel t cs=some x) (hw:(x.1.weights Tryz.prog t).all (·≤reachBytes)=true) :
  ∃ (a:Option Addr) (n c:Nat) (C:Nat→List Value) (m:Nat) (D:Nat→DataW H) (Pl:Nat→List MemPlace),cs=[.slice a n c]∧Sl (fun _=>True) k w (.slice a n c) n C∧n*bytes≤140737488355328 ∧
   ∀ i,i<n→DataW.trod enc Tryz.prog w 0 (fun _=>true) true m e (C i)=some (D i,Pl i)∧((D i).weights Tryz.prog e).all (·≤reachBytes)=true∧SizeOf.sizeOf (D i)<SizeOf.sizeOf x.1:=by
 rcases open_slice ht h with ⟨rfl,rfl⟩ | ⟨a,len,cap,m,n,D,Pl,rfl,_,hlc,hcm,hm,rfl,hx⟩
 ·exact ⟨none,0,0,fun _=>[],0,fun _=>.nil,fun _=>[],rfl,Sl.nil,by omega,fun i hi=>absurd hi (Nat.not_lt_zero _)⟩
 ·simp only [if_true] at hm
  subst hm;rw [DataW.weights] at hw;simp only [ht] at hw;rw [List.all_cons,Bool.and_eq_true] at hw;obtain ⟨hw1,hw2⟩:=hw;have hwe:=(all_append hw2).1;simp only [List.length_map,List.length_range,hby,decide_eq_true_eq,reachBytes] at hw1;rw [hk] at hx;obtain ⟨C,hC⟩:=choose_lt (α:=List Value) (p:=fun i cs'=>w.cells? 0 (a.add (i*k)) k=some cs'∧DataW.trod enc Tryz.prog w 0 (fun _=>true) true n e cs'=some (D i,Pl i)) hx;refine ⟨some a,len,m,C,n,D,Pl,rfl,⟨some a,m,rfl,hlc,hcm,fun hp=>?_⟩,?_,fun i hi=>⟨(hC i (by omega)).2,?_,?_⟩⟩
  ·obtain ⟨_,hl0,hc0⟩:=World.cells?_some (hC 0 (by omega)).1
   have h00:=hc0 0 hk0;rw [Nat.zero_mul] at h00;have e0:(a.add 0).add 0=a:=(by simp [Addr.add]);rw [e0] at h00;have hsome:∃ v,(C 0)[0]?=some v:=⟨(C 0)[0]'(by omega),List.getElem?_eq_getElem (by omega)⟩;obtain ⟨v,hv⟩:=hsome;rw [hv] at h00;obtain ⟨hs,hb⟩:=spot_none h00;refine ⟨a.block,a.off,?_,trivial,hb,fun i hi=>?_⟩
   ·obtain ⟨b,o,s⟩:=a
    simp only at hs;subst hs;rfl
   ·obtain ⟨_,hl,hc⟩:=World.cells?_some (hC i (by omega)).1
    refine ⟨hl,fun j hj=>?_⟩;rw [←hc j hj,Deep.add_add,add_none hs,Nat.add_assoc]
  ·have:len*bytes≤(len+(m-len))*bytes:=Nat.mul_le_mul_right _ (by omega)
   omega
  ·have:=weightsAll_at _ hwe i (by simpa using hi)
   simpa using this
  ·have h1:D i ∈ (List.range len).map D:=List.mem_map.2 ⟨i,List.mem_range.2 hi,rfl⟩
   have h2:=List.sizeOf_lt_of_mem h1;simp only [DataW.slice.sizeOf_spec];omega
end
end Go.Proofs.YtophfbefnaelfaaGreatDoor
