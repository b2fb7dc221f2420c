import Derived.Test.YtkfgbhlpjkkgfaaGreatDoorT04
import Derived.Deep.Slices
import GoSem.ClaimJoined
set_option linter.unusedVariables false
set_option linter.unusedSimpArgs false
set_option maxHeartbeats 64000000
set_option maxRecDepth 100000
namespace Go.Proofs.YtkfgbhlpjkkgfaaGreatDoor
open Go.RowKit Go.IntWalk
inductive FitX:Ex->Prop
 | mk {o k n:Int} {s:ByteArray} {S:List (List Tm)} {L:List Ex} (hS:FitS S) (hL:L.length*88<=140737488355328) (hE:∀ i (h:i<L.length),FitX L[i]):FitX (.mk o k n s S L)
def FitXs (L:List Ex):Prop:=L.length*88<=140737488355328/\∀ i (h:i<L.length),FitX L[i]
theorem FitX.parts {e:Ex} (h:FitX e):FitS e.S/\FitXs e.L:=by
 cases h with
 | mk hS hL hE=>exact ⟨hS,hL,hE⟩
theorem HEx.make {ok:Nat->Prop} {w:World} {x:ExV} {e:Ex} (h1:x.op=e.op) (h2:x.k=e.k) (h3:x.n=e.n) (h4:x.name=e.name) (hS:HSizes ok w (.slice x.aS x.nS x.cS) e.S) (hL:HExs ok w (.slice x.aL x.nL x.cL) e.L):HEx ok w x.cells e:=by
 obtain ⟨o,k,n,s,S,L⟩:=e;obtain ⟨xo,xk,xn,xs,a,b,c,d,f,g⟩:=x;simp only [Ex.op,Ex.k,Ex.n,Ex.name,Ex.S,Ex.L] at h1 h2 h3 h4 hS hL;subst h1 h2 h3 h4;obtain ⟨C,hl,hE⟩:=hL;exact .mk C hS hl hE
theorem HExs.wide {ok ok':Nat->Prop} {w:World} {v:Value} {l:List Ex} (h:HExs ok w v l) (hk:∀ i,ok i->i<w.heap.size->ok' i):HExs ok' w v l:=by
 obtain ⟨C,h1,h2⟩:=h;exact ⟨C,h1.wide hk,fun i hi=>(h2 i hi).wide hk⟩
theorem HSizes.set {ok:Nat->Prop} {w:World} {v:Value} {l:List (List Tm)} (h:HSizes ok w v l) {p:Addr} (hp:¬ok p.block) (u:Value):HSizes ok (w.setCell p u) v l :=
 h.keep (by simp [World.setCell]) fun i hi hl=>Below.heap_setCell _ _ _ _ (fun e=>hp (e ▸ hi))
theorem HExs.set {ok:Nat->Prop} {w:World} {v:Value} {l:List Ex} (h:HExs ok w v l) {p:Addr} (hp:¬ok p.block) (u:Value):HExs ok (w.setCell p u) v l :=
 h.keep (by simp [World.setCell]) fun i hi hl=>Below.heap_setCell _ _ _ _ (fun e=>hp (e ▸ hi))
theorem new6s (w:World) (p:Addr) (q a b c d e f:Value) (t:TypeId):∀ j u,[a,b,c,d,e,f][j]?=some u->((w.setCell p q).alloc (.cells #[a,b,c,d,e,f] t)).cell? ((⟨w.heap.size,0,none⟩:Addr).add j)=some u:=by
 intro j u hj;have hn:=zAC (w.setCell p q) (.cells #[a,b,c,d,e,f] t (0,0));rw [zAm] at hn;have dn:(⟨w.heap.size,0,none⟩:Addr).add j=⟨w.heap.size,j,none⟩:=by unfold Addr.add;split<;>simp_all
 rw [dn,co hn];rw [gT];exact hj
theorem Tryz.info54:(Tryz.prog.info? 54).map (fun i=>(i.zero,i.size,i.bytes))=some (some (.agg #[.int .i64 0,.int .i64 0,.int .i64 0,.string ⟨#[]⟩,.slice none 0 0,.slice none 0 0]),6,88):=by kernel_rfl
def Copies (q:Nat):Prop:=∀ (ok:Nat->Prop) (w:World) (v:Value) (l:List Ex),partsL l<q->HExs ok w v l->FitXs l ->
 Calls Tryz.prog 29 #[v] w fun e w'=>∃ a n c,e=.returned (.slice a n c)/\HExs (fun i=>w.heap.size<=i) w' (.slice a n c) l/\Below w.heap.size w w'
theorem zEj (q:Nat) (HI:Copies q):Copies (q+1):=by
 intro ok w v l Be hl hM;have HQ:=zAA Be;clear Be;obtain ⟨i1,ut,gy,e7,jb⟩:=info_parts Tryz.info54;obtain ⟨ao,cap,rfl,aC,av,ai⟩:=hl.at;unfold maxLen at av;have HM:=zAA hM.2;have um:=hM.1;obtain ⟨n,hn⟩:=nmQ (l.length);rw [<-hn] at aC um ⊢;have HN:=zAA hn;clear hn hM hl;go_enter Tryz.func29,Tryz.ntmps29;go_wp2;go_loopg [3,4] n (fun k v3 v wr=>∃ (i:Nat) (D:Nat->List Value),i<=n/\k=n-i/\v=.int .i64 (i:Nat)/\wr.ownsRow w.heap.size 54 6 v3 i (flat D i)/\Hid (∀ j (h:j<l.length),j<i->HEx (Off w.heap.size v3) wr (D j) l[j])/\Below w.heap.size w wr)
 case atStart=>exact ⟨0,fun _=>[],Nat.zero_le _,rfl,rfl,World.ownsRow_nil _ _ _ _,fun j _ h=>absurd h (Nat.not_lt_zero _),Below.refl _ _⟩
 case round=>
  obtain ⟨i,D,tJ,rfl,rfl,ah,H,aj⟩:=hrel;by_cases ak:i<n
  ·have ap:i<l.length:=by have:=HN.out;omega
   obtain ⟨b,o,x,rfl,_,hb,qB,hx⟩:=ai i ap;obtain ⟨e0,e1,e2,e3,e4,e5⟩:=qB.keep (aj.block b hb);obtain ⟨g1,g2,g3,g4,xS,xL⟩:=(hx.under aj).parts;obtain ⟨fS,fL⟩:=(HM.out i ap).parts;have uk:partsL (l[i]).L<q:=by
    have h1:=Nat.lt_of_le_of_lt (zBU l i ap) HQ.out;obtain ⟨p,hp⟩:=nmQ (l[i]);rw [<-hp] at h1 ⊢;obtain ⟨p1,p2,p3,p4,p5,p6⟩:=p;rw [parts] at h1;simp only [Ex.L];omega
   have G1:=zAA g1;have G2:=zAA g2;have G3:=zAA g3;have G4:=zAA g4;clear ai hx qB g1 g2 g3 g4;have zr:=aj.size;have wx:Below wr.heap.size wr (wr.alloc (.cells #[.int .i64 x.op,.int .i64 x.k,.int .i64 x.n,.string x.name,.slice x.aS x.nS x.cS,.slice x.aL x.nL x.cL] 54 (0,0))):=(Below.refl _ wr).alloc nR _;have uh:=zAC wr (.cells #[.int .i64 x.op,.int .i64 x.k,.int .i64 x.n,.string x.name,.slice x.aS x.nS x.cS,.slice x.aL x.nL x.cL] 54 (0,0));have uV:u3.ownBlock≠some wr.heap.size:=fun e=>by
    have:=World.ownsRow.lt ah _ e;omega
   go_wp2_with fail;refine (zCt (xS.under wx) fS).mono ?_;rintro e w2 ⟨a2,n2,c2,rfl,fc,b2⟩;have z2:wr.heap.size+1<=w2.heap.size:=(by simpa using b2.size);have k2:=(aside b2 (S:=[])).keep uh (zAB uh) (by simp);have s4:=co k2 4;have s5:=co k2 5;have Ax:=fun o=>fo k2 o;simp at s4 s5;have J5:=(wx.trans (b2.mono (by simp))).setCell (p:=⟨wr.heap.size,4,none⟩) nR (.slice a2 n2 c2);have fG:=(fc.set (p:=⟨wr.heap.size,4,none⟩) (by simp) (.slice a2 n2 c2));clear e0 e1 e2 e3 e4 e5;go_wp2_with fail;refine (HI _ _ _ _ uk (xL.under J5) fL).mono ?_;rintro e w3 ⟨a3,n3,c3,rfl,ED,b3⟩;rw [zAm] at b3 ED;have z3:w2.heap.size<=w3.heap.size:=(by have:=b3.size;rw [zAm] at this;exact this);have k3:=(aside b3 (S:=[])).keep (zAD k2 4 (.slice a2 n2 c2)) (by omega) (by simp);simp at k3;have t0:=co k3 0;have t1:=co k3 1;have t2:=co k3 2;have t3:=co k3 3;have t4:=co k3 4;have t5:=co k3 5;have AE:=fun o=>fo k3 o;simp at t0 t1 t2 t3 t4 t5;have Jo:Below wr.heap.size wr w3:=J5.trans (b3.mono (by omega));have jE:HSizes (fun k=>wr.heap.size+1<=k) w3 (.slice a2 n2 c2) (l[i]).S:=by
    have h8:=(fG.wide (ok':=fun k=>wr.heap.size+1<=k) (fun k hk _=>by simpa using hk));exact h8.keep (by rw [zAm];exact z3) (fun k _ hl=>b3.block k (by rw [zAm] at hl;exact hl))
   have cf:=(zDa (p:=⟨wr.heap.size,5,none⟩) (zAQ ah Jo) uV (.slice a3 n3 c3)).alloc (.cells #[.int .i64 x.op,.int .i64 x.k,.int .i64 x.n,.string x.name,.slice a2 n2 c2,.slice a3 n3 c3] 54 (0,0));clear s4 s5 Ax
   go_wp2_with (at_builtin;refine zAv rfl _ _ 52 rfl w.heap.size 54 i1 (.agg #[.int .i64 0,.int .i64 0,.int .i64 0,.string ⟨#[]⟩,.slice none 0 0,.slice none 0 0]) 6 88 Tryz.underlying52 ut gy e7 jb rfl (by decide) _ _ _ rfl cf ⟨w3.heap.size,0,none⟩ 1 1 [.int .i64 x.op,.int .i64 x.k,.int .i64 x.n,.string x.name,.slice a2 n2 c2,.slice a3 n3 c3] rfl rfl (new6s _ _ _ _ _ _ _ _ _ _) (by intro u hu;simp at hu;rcases hu with rfl | rfl | rfl | rfl | rfl | rfl<;>rfl) (by unfold maxLen;omega) (by omega) (by simp [World.setCell];omega) ?_;intro v4 w4 cK am fR)
   obtain ⟨W4,p8⟩:∃ W,W=(w3.setCell ⟨wr.heap.size,5,none⟩ (.slice a3 n3 c3)).alloc (.cells #[.int .i64 x.op,.int .i64 x.k,.int .i64 x.n,.string x.name,.slice a2 n2 c2,.slice a3 n3 c3] 54 (0,0)):=⟨_,rfl⟩;have y4:W4.heap.size=w3.heap.size+1:=(by rw [p8];simp [World.setCell]);rw [<-p8] at cf am fR;have df:Moved W4 u3 v4:=fR;have zV:Below wr.heap.size wr W4:=by
    rw [p8];exact (Jo.setCell nR _).alloc (by rw [zAm];omega) _
   have gE:=zBD (B:=w.heap.size) (v:=u3) am;have b4:=Below.push (B:=w.heap.size) (aj.trans (zV.mono aj.size)) (by omega) cf am;have e9:HSizes (fun k=>wr.heap.size+1<=k) W4 (.slice a2 n2 c2) (l[i]).S:=by
    rw [p8];exact (jE.set (p:=⟨wr.heap.size,5,none⟩) (by simp) _).under ((Below.refl _ _).alloc nR _)
   have Le:HExs (fun k=>wr.heap.size+1<=k) W4 (.slice a3 n3 c3) (l[i]).L:=by
    rw [p8];exact ((ED.wide (ok':=fun k=>wr.heap.size+1<=k) (fun k hk _=>by omega)).set (p:=⟨wr.heap.size,5,none⟩) (by simp) _).under ((Below.refl _ _).alloc nR _)
   have zX:HEx (fun k=>wr.heap.size+1<=k) W4 [.int .i64 x.op,.int .i64 x.k,.int .i64 x.n,.string x.name,.slice a2 n2 c2,.slice a3 n3 c3] l[i]:=HEx.make (x:=⟨x.op,x.k,x.n,x.name,a2,n2,c2,a3,n3,c3⟩) G1.out G2.out G3.out G4.out e9 Le;have gj:w4.ownsRow w.heap.size 54 6 v4 (i+1) (flat (fun q=>if q=i then [.int .i64 x.op,.int .i64 x.k,.int .i64 x.n,.string x.name,.slice a2 n2 c2,.slice a3 n3 c3] else D q) (i+1)):=by
    have e:flat (fun q=>if q=i then [.int .i64 x.op,.int .i64 x.k,.int .i64 x.n,.string x.name,.slice a2 n2 c2,.slice a3 n3 c3] else D q) (i+1)=flat D i++[.int .i64 x.op,.int .i64 x.k,.int .i64 x.n,.string x.name,.slice a2 n2 c2,.slice a3 n3 c3]:=by
     rw [flat,zAY (D:=D) i (fun q hq=>by rw [if_neg (by omega)])];simp
    rw [e];exact cK
   have gw:HEx (Off w.heap.size v4) w4 [.int .i64 x.op,.int .i64 x.k,.int .i64 x.n,.string x.name,.slice a2 n2 c2,.slice a3 n3 c3] l[i]:=by
    have g1:=zX.wide (ok':=fun k=>Off w.heap.size u3 k/\k<W4.heap.size) (fun k hk hl=>⟨Off.new ah nR aj.size (by omega),hl⟩);have g2:=g1.keep am.size (fun k hk hl=>gE k hk.1 hl);exact g2.wide (fun k hk _=>Off.moved df hk.1 hk.2)
   have gI:Hid (∀ j (h:j<l.length),j<i->HEx (Off w.heap.size v4) w4 (D j) l[j]):=fun j hj bJ=>by
    have g1:=((H.out j hj bJ).wide (ok':=fun k=>Off w.heap.size u3 k/\k<wr.heap.size) (fun k hk hl=>⟨hk,hl⟩)).under zV;have g2:=g1.keep am.size (fun k hk hl=>gE k hk.1 hl);exact g2.wide (fun k hk _=>Off.moved df hk.1 (by omega))
   clear cK am fR cf H gE e9 Le zX t0 t1 t2 t3 t4 t5 AE k3 k2 jE ED fc fG;go_wp2;go_roundg (n-(i+1))
   case measure=>omega
   case rel=>
    refine ⟨i+1,_,by omega,rfl,by go_num,gj,fun j hj bJ=>?_,b4⟩;by_cases e:j=i
    ·subst e
     simpa using gw
    ·have hT:=gI.out j hj (by omega)
     simpa [e] using hT
  ·have eH:i=n:=by omega
   subst eH;clear ai;have h9:=HN.out;have hs:=zBG ah (fun j hj=>by obtain ⟨y,hy,_⟩:=(H.out j (by omega) hj).toV;rw [hy];rfl);have jM:=hs;obtain ⟨a5,c5,rfl,_⟩:=jM;go_wp2;go_ret;refine ⟨_,_,_,rfl,⟨D,?_,fun j hj=>?_⟩,aj⟩
   ·rw [<-HN.out];exact hs
   ·exact (H.out j hj (by rw [HN.out];exact hj)).wide (fun k hk _=>hk.1)
theorem copies:∀ q,Copies q
 | 0=>fun _ _ _ _ h=>absurd h (Nat.not_lt_zero _)
 | q+1=>zEj q (copies q)
theorem zFh {ok:Nat->Prop} {w:World} {v:Value} {l:List Ex} (hl:HExs ok w v l) (hM:FitXs l) :
  Calls Tryz.prog 29 #[v] w fun e w'=>∃ a n c,e=.returned (.slice a n c)/\HExs (fun i=>w.heap.size<=i) w' (.slice a n c) l/\Below w.heap.size w w':=copies (partsL l+1) _ _ _ _ (Nat.lt_succ_self _) hl hM
end Go.Proofs.YtkfgbhlpjkkgfaaGreatDoor
namespace Go.Proofs.YtkfgbhlpjkkgfaaGreatDoor
open Go.RowKit Go.IntWalk Go.Deep
section
variable {H:Type} {enc:TypeId × Value->H} {w:World}
theorem all_append {l r:List Nat} (h:(l++r).all (·<=reachBytes)=true):l.all (·<=reachBytes)=true/\r.all (·<=reachBytes)=true:=by
 simpa [List.all_append] using h
theorem zCp {P:Program} {e:TypeId}:∀ (l:List (DataW H)) (h:(DataW.weightsAll P e l).all (·<=reachBytes)=true) (i:Nat) (hi:i<l.length),((l[i]).weights P e).all (·<=reachBytes)=true
 | [],_,i,hi=>by simp at hi
 | d :: l,h,0,_=>by rw [DataW.weightsAll] at h;exact (all_append h).1
 | d :: l,h,i+1,hi=>by rw [DataW.weightsAll] at h;exact zCp l (all_append h).2 i (by simpa using hi)
theorem zBV {P:Program}:∀ (ts:List TypeId) (l:List (DataW H)) (h:(DataW.weightsEach P ts l).all (·<=reachBytes)=true) (i:Nat) (t:TypeId) (d:DataW H),ts[i]?=some t->l[i]?=some d->(d.weights P t).all (·<=reachBytes)=true
 | [],_,_,i,_,_,h1,_=>by simp at h1
 | _ :: _,[],_,i,_,_,_,h2=>by simp at h2
 | a :: ts,d :: l,h,0,_,_,h1,h2=>by
  rw [DataW.weightsEach] at h;simp at h1 h2;subst h1 h2;exact (all_append h).1
 | a :: ts,d :: l,h,i+1,t,x,h1,h2=>by
  rw [DataW.weightsEach] at h;exact zBV ts l (all_append h).2 i t x (by simpa using h1) (by simpa using h2)
theorem add_none {a:Addr} (h:a.spot=none) (q:Nat):a.add q=⟨a.block,a.off+q,none⟩:=by
 obtain ⟨b,o,s⟩:=a;simp only at h;subst h;unfold Addr.add
 split<;>simp_all
theorem spot_none {w:World} {a:Addr} {v:Value} (h:w.cell? a=some v):a.spot=none/\a.block<w.heap.size:=by
 unfold World.cell? at h
 split at h
 ·rename_i hh
  refine ⟨?_,(Array.getElem?_eq_some_iff.1 hh).1⟩
  cases hs:a.spot with
  | none=>rfl
  | some s=>rw [hs] at h;simp at h
 ·cases h
theorem zBW {t e:TypeId} {k bytes fuel:Nat} {cs:List Value} {x:DataW H × List MemPlace} (ht:Tryz.prog.underlying t=some (.slice e)) (hk:Tryz.prog.cellsOf e=k) (gm:0<k) (l8:Tryz.prog.bytesOf e=bytes)
  (h:DataW.trod enc Tryz.prog w 0 (fun _=>true) true fuel t cs=some x) (hw:(x.1.weights Tryz.prog t).all (·<=reachBytes)=true) :
  ∃ (a:Option Addr) (n c:Nat) (C:Nat->List Value) (m:Nat) (D:Nat->DataW H) (Pl:Nat->List MemPlace),cs=[.slice a n c]/\Sl (fun _=>True) k w (.slice a n c) n C/\n*bytes<=140737488355328 /\
   ∀ i,i<n->DataW.trod enc Tryz.prog w 0 (fun _=>true) true m e (C i)=some (D i,Pl i)/\((D i).weights Tryz.prog e).all (·<=reachBytes)=true/\SizeOf.sizeOf (D i)<SizeOf.sizeOf x.1:=by
 rcases open_slice ht h with ⟨rfl,rfl⟩ | ⟨a,len,cap,m,n,D,Pl,rfl,_,GV,eV,hm,rfl,hx⟩
 ·exact ⟨none,0,0,fun _=>[],0,fun _=>.nil,fun _=>[],rfl,Sl.nil,by omega,fun i hi=>absurd hi (Nat.not_lt_zero _)⟩
 ·simp only [if_true] at hm
  subst hm;rw [DataW.weights] at hw;simp only [ht] at hw;rw [List.all_cons,Bool.and_eq_true] at hw;obtain ⟨ew,gX⟩:=hw;have Nn:=(all_append gX).1;simp only [List.length_map,List.length_range,l8,decide_eq_true_eq,reachBytes] at ew;rw [hk] at hx;obtain ⟨C,hC⟩:=choose_lt (α:=List Value) (p:=fun i I1=>w.cells? 0 (a.add (i*k)) k=some I1/\DataW.trod enc Tryz.prog w 0 (fun _=>true) true n e I1=some (D i,Pl i)) hx;refine ⟨some a,len,m,C,n,D,Pl,rfl,⟨some a,m,rfl,GV,eV,fun hp=>?_⟩,?_,fun i hi=>⟨(hC i (by omega)).2,?_,?_⟩⟩
  ·obtain ⟨_,eO,eQ⟩:=World.cells?_some (hC 0 (by omega)).1
   have wW:=eQ 0 gm;rw [Nat.zero_mul] at wW;have e0:(a.add 0).add 0=a:=(by simp [Addr.add]);rw [e0] at wW;have xT:∃ v,(C 0)[0]?=some v:=⟨(C 0)[0]'(by omega),List.getElem?_eq_getElem (by omega)⟩;obtain ⟨v,hv⟩:=xT;rw [hv] at wW;obtain ⟨hs,hb⟩:=spot_none wW;refine ⟨a.block,a.off,?_,trivial,hb,fun i hi=>?_⟩
   ·obtain ⟨b,o,s⟩:=a
    simp only at hs;subst hs;rfl
   ·obtain ⟨_,hl,hc⟩:=World.cells?_some (hC i (by omega)).1
    refine ⟨hl,fun j hj=>?_⟩;rw [<-hc j hj,Deep.add_add,add_none hs,Nat.add_assoc]
  ·have:len*bytes<=(len+(m-len))*bytes:=Nat.mul_le_mul_right _ (by omega)
   omega
  ·have:=zCp _ Nn i (by simpa using hi)
   simpa using this
  ·have h1:D i ∈ (List.range len).map D:=List.mem_map.2 ⟨i,List.mem_range.2 hi,rfl⟩
   have h2:=List.sizeOf_lt_of_mem h1;simp only [DataW.slice.sizeOf_spec];omega
end
end Go.Proofs.YtkfgbhlpjkkgfaaGreatDoor
namespace Go.Proofs.YtkfgbhlpjkkgfaaGreatDoor
open Go.RowKit Go.IntWalk Go.Deep
section
variable {H:Type} {enc:TypeId × Value->H} {w:World}
def Rd0 (enc:TypeId × Value->H) (w:World) (t:TypeId) (cs:List Value):Prop :=
 ∃ fuel x,DataW.trod enc Tryz.prog w 0 (fun _=>true) true fuel t cs=some x/\(x.1.weights Tryz.prog t).all (·<=reachBytes)=true
theorem zCM {t:TypeId} {fs:Array Field} {fuel:Nat} {cs:List Value} {x:DataW H × List MemPlace} (ht:Tryz.prog.underlying t=some (.struct fs)) (h:DataW.trod enc Tryz.prog w 0 (fun _=>true) true fuel t cs=some x) (hw:(x.1.weights Tryz.prog t).all (·<=reachBytes)=true) :
  ∃ n,fuel=n+1/\cs.length=Tryz.prog.cellsOf t/\∀ (i:Nat) (f:Field),fs[i]?=some f->∃ y,DataW.trod enc Tryz.prog w 0 (fun _=>true) true n f.type ((cs.drop f.offset).take (Tryz.prog.cellsOf f.type))=some y/\(y.1.weights Tryz.prog f.type).all (·<=reachBytes)=true/\SizeOf.sizeOf y.1<SizeOf.sizeOf x.1:=by
 obtain ⟨xs,n,hn,rfl,hl,Dz,hx⟩:=DataW.trod_struct ht h;refine ⟨n,hn,hl,fun i f hf=>?_⟩;have hi:i<fs.size:=(Array.getElem?_eq_some_iff.1 hf).1;have IS:xs[i]?=some (xs[i]'(by omega)):=List.getElem?_eq_getElem (by omega);refine ⟨xs[i]'(by omega),(hx i f hf).trans IS,?_,?_⟩
 rotate_left
 ·have h1:(xs[i]'(by omega)).1 ∈ xs.map (·.1):=List.mem_map.2 ⟨_,List.getElem_mem (by omega),rfl⟩
  have h2:=List.sizeOf_lt_of_mem h1;simp only [DataW.agg.sizeOf_spec];omega
 rw [DataW.weights] at hw;simp only [ht] at hw;refine zBV _ _ hw i f.type _ ?_ (by rw [List.getElem?_map,IS];rfl);rw [List.getElem?_map];have:fs.toList[i]?=some f:=(by simpa using hf);rw [this];rfl
theorem zBh {cs:List Value} (h:Rd0 enc w 9 cs):∃ s,cs=[.string s]:=by
 obtain ⟨fuel,x,h,_⟩:=h;obtain ⟨s,hs,_⟩:=DataW.trod_string Tryz.underlying9 h;exact ⟨s,hs⟩
theorem zBX {cs:List Value} {t:TypeId} {k:IntKind} (ht:Tryz.prog.underlying t=some (.int k)) (h:Rd0 enc w t cs):∃ n,cs=[.int k n]:=by
 obtain ⟨fuel,x,h,_⟩:=h;obtain ⟨n,hs,_⟩:=DataW.trod_int ht h;exact ⟨n,hs⟩
theorem cells1 (t:TypeId) (h:Tryz.prog.cellsOf t=1) (cs:List Value) (i:Nat) (v:Value) (hv:cs[i]?=some v):(cs.drop i).take (Tryz.prog.cellsOf t)=[v]:=by
 obtain ⟨hi,he⟩:=List.getElem?_eq_some_iff.1 hv;rw [h,List.drop_eq_getElem_cons hi,List.take_succ_cons,List.take_zero,he]
theorem zAM {t:TypeId} {fs:Array Field} {cs:List Value} (ht:Tryz.prog.underlying t=some (.struct fs)) (h:Rd0 enc w t cs) (i:Nat) (ft off:Nat) (cw:(fs[i]?).map (fun f=>(f.type,f.offset))=some (ft,off)) (hc:Tryz.prog.cellsOf ft=1) (v:Value) (hv:cs[off]?=some v):Rd0 enc w ft [v]:=by
 obtain ⟨fuel,x,h,hw⟩:=h;obtain ⟨n,rfl,hl,hf⟩:=zCM ht h hw
 cases rn:fs[i]? with
 | none=>rw [rn] at cw;cases cw
 | some f=>
  rw [rn] at cw;simp only [Option.map_some,Option.some.injEq,Prod.mk.injEq] at cw;obtain ⟨y,a0,b0,_⟩:=hf i f rn;rw [cw.1,cw.2,cells1 ft hc cs off v hv] at a0;rw [cw.1] at b0;exact ⟨n,y,a0,b0⟩
theorem field_lt {t:TypeId} {fs:Array Field} {cs:List Value} {fuel:Nat} {x:DataW H × List MemPlace} (ht:Tryz.prog.underlying t=some (.struct fs)) (h:DataW.trod enc Tryz.prog w 0 (fun _=>true) true fuel t cs=some x) (hw:(x.1.weights Tryz.prog t).all (·<=reachBytes)=true) (i:Nat) (ft off:Nat) (cw:(fs[i]?).map (fun f=>(f.type,f.offset))=some (ft,off)) :
  ∃ n y,DataW.trod enc Tryz.prog w 0 (fun _=>true) true n ft ((cs.drop off).take (Tryz.prog.cellsOf ft))=some y/\(y.1.weights Tryz.prog ft).all (·<=reachBytes)=true/\SizeOf.sizeOf y.1<SizeOf.sizeOf x.1:=by
 obtain ⟨n,rfl,hl,hf⟩:=zCM ht h hw
 cases rn:fs[i]? with
 | none=>rw [rn] at cw;cases cw
 | some f=>
  rw [rn] at cw;simp only [Option.map_some,Option.some.injEq,Prod.mk.injEq] at cw;obtain ⟨y,a0,b0,c0⟩:=hf i f rn;rw [cw.1,cw.2] at a0;rw [cw.1] at b0;exact ⟨n,y,a0,b0,c0⟩
theorem zDm {t:TypeId} {fs:Array Field} {cs:List Value} (ht:Tryz.prog.underlying t=some (.struct fs)) (h:Rd0 enc w t cs):cs.length=Tryz.prog.cellsOf t:=by
 obtain ⟨fuel,x,h,hw⟩:=h;obtain ⟨n,rfl,hl,hf⟩:=zCM ht h hw;exact hl
theorem c2:Tryz.prog.cellsOf 2=1:=by kernel_rfl
theorem c3:Tryz.prog.cellsOf 3=1:=by kernel_rfl
theorem c5:Tryz.prog.cellsOf 5=1:=by kernel_rfl
theorem c9:Tryz.prog.cellsOf 9=1:=by kernel_rfl
theorem c23:Tryz.prog.cellsOf 22=1:=by kernel_rfl
theorem c35:Tryz.prog.cellsOf 43=1:=by kernel_rfl
theorem c36:Tryz.prog.cellsOf 44=1:=by kernel_rfl
theorem c37:Tryz.prog.cellsOf 45=1:=by kernel_rfl
theorem c40:Tryz.prog.cellsOf 51=1:=by kernel_rfl
theorem c41:Tryz.prog.cellsOf 52=1:=by kernel_rfl
theorem c90:Tryz.prog.cellsOf 33=1:=by kernel_rfl
theorem c92:Tryz.prog.cellsOf 35=2:=by kernel_rfl
theorem c99:Tryz.prog.cellsOf 83=2:=by kernel_rfl
theorem c94:Tryz.prog.cellsOf 50=3:=by kernel_rfl
theorem c45:Tryz.prog.cellsOf 54=6:=by kernel_rfl
theorem c43:Tryz.prog.cellsOf 56=5:=by kernel_rfl
theorem c39:Tryz.prog.cellsOf 47=7:=by kernel_rfl
theorem c25:Tryz.prog.cellsOf 24=1:=by kernel_rfl
theorem open_term {cs:List Value} (h:Rd0 enc w 83 cs):∃ n s,cs=[.int .i64 n,.string s]:=by
 have hl:=zDm Tryz.underlying83 h;rw [c99] at hl
 match cs,hl with
 | [v0,v1],_=>
  obtain ⟨m,hm⟩:=zBX (k:=.i64) Tryz.underlying2 (zAM Tryz.underlying83 h 0 2 0 rfl c2 v0 rfl);obtain ⟨s,hs⟩:=zBh (zAM Tryz.underlying83 h 1 9 1 rfl c9 v1 rfl);injection hm with hm;injection hs with hs;exact ⟨m,s,by rw [hm,hs]⟩
theorem zBw {α:Type} [Inhabited α] (n:Nat) (f:Nat->α):∃ l:List α,l.length=n/\∀ i (h:i<l.length),l[i]=f i :=
 ⟨(List.range n).map f,by simp,fun i h=>by simp⟩
theorem zEk {cs:List Value} (h:Rd0 enc w 43 cs):∃ a n c l,cs=[.slice a n c]/\HNames (fun _=>True) w (.slice a n c) l/\l.length*16<=140737488355328:=by
 obtain ⟨fuel,x,h,hw⟩:=h;obtain ⟨a,n,c,C,m,D,Pl,rfl,hS,hb,hx⟩:=zBW (bytes:=16) Tryz.underlying43 c9 (by decide) (by kernel_rfl) h hw;obtain ⟨f,hf⟩:=choose_lt (n:=n) (p:=fun i (s:ByteArray)=>C i=[.string s]) (fun i hi=>zBh ⟨m,_,(hx i hi).1,(hx i hi).2.1⟩);obtain ⟨l,hl,il⟩:=zBw n f;refine ⟨a,n,c,l,rfl,⟨C,by rw [hl];exact hS,fun i hi=>by rw [il i hi];exact hf i (by omega)⟩,by rw [hl];exact hb⟩
instance:Inhabited Tm:=⟨(0,⟨#[]⟩)⟩
theorem zEl {cs:List Value} (h:Rd0 enc w 33 cs):∃ a n c l,cs=[.slice a n c]/\HTerms (fun _=>True) w (.slice a n c) l/\l.length*24<=140737488355328:=by
 obtain ⟨fuel,x,h,hw⟩:=h;obtain ⟨a,n,c,C,m,D,Pl,rfl,hS,hb,hx⟩:=zBW (bytes:=24) Tryz.underlying33 c99 (by decide) (by kernel_rfl) h hw;obtain ⟨f,hf⟩:=choose_lt (n:=n) (p:=fun i (s:Tm)=>C i=[.int .i64 s.1,.string s.2]) (fun i hi=>by
  obtain ⟨p,q,DH⟩:=open_term ⟨m,_,(hx i hi).1,(hx i hi).2.1⟩;exact ⟨(p,q),DH⟩)
 obtain ⟨l,hl,il⟩:=zBw n f;refine ⟨a,n,c,l,rfl,⟨C,by rw [hl];exact hS,fun i hi=>by rw [il i hi];exact hf i (by omega)⟩,by rw [hl];exact hb⟩
theorem zEm {cs:List Value} (h:Rd0 enc w 51 cs):∃ a n c l,cs=[.slice a n c]/\HSizes (fun _=>True) w (.slice a n c) l/\FitS l:=by
 obtain ⟨fuel,x,h,hw⟩:=h;obtain ⟨a,n,c,C,m,D,Pl,rfl,hS,hb,hx⟩:=zBW (bytes:=24) Tryz.underlying51 c90 (by decide) (by kernel_rfl) h hw;obtain ⟨f,hf⟩:=choose_lt (n:=n) (p:=fun i (s:List Tm)=>∃ u,C i=[u]/\HTerms (fun _=>True) w u s/\s.length*24<=140737488355328) (fun i hi=>by
  obtain ⟨a,n,c,l,h1,h2,h3⟩:=zEl ⟨m,_,(hx i hi).1,(hx i hi).2.1⟩;exact ⟨l,_,h1,h2,h3⟩)
 obtain ⟨l,hl,il⟩:=zBw n f;refine ⟨a,n,c,l,rfl,⟨C,by rw [hl];exact hS,fun i hi=>?_⟩,by rw [hl];exact hb,fun i hi=>?_⟩
 ·obtain ⟨u,h1,h2,_⟩:=hf i (by omega)
  rw [il i hi];exact ⟨u,h1,h2⟩
 ·obtain ⟨u,_,_,h3⟩:=hf i (by omega)
  rw [il i hi];exact h3
instance:Inhabited De:=⟨⟨⟨#[]⟩,0,[]⟩⟩
instance:Inhabited Ex:=⟨.mk 0 0 0 ⟨#[]⟩ [] []⟩
instance:Inhabited Eqn:=⟨⟨0,[],⟨#[]⟩,[],[]⟩⟩
instance:Inhabited Nd:=⟨⟨⟨#[]⟩,0,[],[],[],[],[]⟩⟩
theorem open_decl {cs:List Value} (h:Rd0 enc w 50 cs):∃ (d:De) (u:Value),cs=[.string d.name,.int .u8 d.elem,u]/\HTerms (fun _=>True) w u d.n/\d.n.length*24<=140737488355328:=by
 have hl:=zDm Tryz.underlying50 h;rw [c94] at hl
 match cs,hl with
 | [v0,v1,v2],_=>
  obtain ⟨s,hs⟩:=zBh (zAM Tryz.underlying50 h 0 9 0 rfl c9 v0 rfl);have hT:Rd0 enc w 35 [v1,v2]:=by
   obtain ⟨fuel,x,h,hw⟩:=h;obtain ⟨n,y,a0,b0,_⟩:=field_lt Tryz.underlying50 h hw 1 35 1 rfl;rw [c92] at a0;exact ⟨n,y,a0,b0⟩
  obtain ⟨e,he⟩:=zBX (k:=.u8) Tryz.underlying5 (zAM Tryz.underlying35 hT 0 5 0 rfl c5 v1 rfl);obtain ⟨a,n,c,l,h1,h2,h3⟩:=zEl (zAM Tryz.underlying35 hT 1 33 1 rfl c90 v2 rfl);injection hs with hs;injection he with he;injection h1 with h1;subst hs he h1;exact ⟨⟨s,e,l⟩,_,rfl,h2,h3⟩
theorem zDB {cs:List Value} (h:Rd0 enc w 44 cs):∃ a n c l,cs=[.slice a n c]/\HDes (fun _=>True) w (.slice a n c) l/\FitD l:=by
 obtain ⟨fuel,x,h,hw⟩:=h;obtain ⟨a,n,c,C,m,D,Pl,rfl,hS,hb,hx⟩:=zBW (bytes:=48) Tryz.underlying44 c94 (by decide) (by kernel_rfl) h hw;obtain ⟨f,hf⟩:=choose_lt (n:=n) (p:=fun i (s:De)=>∃ u,C i=[.string s.name,.int .u8 s.elem,u]/\HTerms (fun _=>True) w u s.n/\s.n.length*24<=140737488355328) (fun i hi=>open_decl ⟨m,_,(hx i hi).1,(hx i hi).2.1⟩);obtain ⟨l,hl,il⟩:=zBw n f;refine ⟨a,n,c,l,rfl,⟨C,by rw [hl];exact hS,fun i hi=>?_⟩,by rw [hl];exact hb,fun i hi=>?_⟩
 ·obtain ⟨u,h1,h2,_⟩:=hf i (by omega)
  rw [il i hi];exact ⟨u,h1,h2⟩
 ·obtain ⟨u,_,_,h3⟩:=hf i (by omega)
  rw [il i hi];exact h3
theorem zCq:∀ (N fuel:Nat) (cs:List Value) (x:DataW H × List MemPlace),SizeOf.sizeOf x.1<N->DataW.trod enc Tryz.prog w 0 (fun _=>true) true fuel 52 cs=some x->(x.1.weights Tryz.prog 52).all (·<=reachBytes)=true ->
  ∃ a n c l,cs=[.slice a n c]/\HExs (fun _=>True) w (.slice a n c) l/\FitXs l
 | 0,_,_,_,hN,_,_=>absurd hN (Nat.not_lt_zero _)
 | N+1,fuel,cs,x,hN,h,hw=>by
  obtain ⟨a,n,c,C,m,D,Pl,rfl,hS,hb,hx⟩:=zBW (bytes:=88) Tryz.underlying52 c45 (by decide) (by kernel_rfl) h hw;obtain ⟨f,hf⟩:=choose_lt (n:=n) (p:=fun i (e:Ex)=>HEx (fun _=>True) w (C i) e/\FitX e) (fun i hi=>by
   obtain ⟨t1,t2,t3⟩:=hx i hi;have hr:Rd0 enc w 54 (C i):=⟨m,_,t1,t2⟩;have hl:=zDm Tryz.underlying54 hr;rw [c45] at hl;obtain ⟨fu,y,l1,l2,l3⟩:=field_lt Tryz.underlying54 t1 t2 5 52 5 rfl;rw [c41] at l1;simp only at l3;generalize C i=ci at *
   match ci,hl with
   | [v0,v1,v2,v3,v4,v5],_=>
    obtain ⟨n0,h0⟩:=zBX (k:=.i64) Tryz.underlying3 (zAM Tryz.underlying54 hr 0 3 0 rfl c3 v0 rfl);obtain ⟨n1,h1⟩:=zBX (k:=.i64) Tryz.underlying3 (zAM Tryz.underlying54 hr 1 3 1 rfl c3 v1 rfl);obtain ⟨n2,h2⟩:=zBX (k:=.i64) Tryz.underlying2 (zAM Tryz.underlying54 hr 2 2 2 rfl c2 v2 rfl);obtain ⟨s,h3⟩:=zBh (zAM Tryz.underlying54 hr 3 9 3 rfl c9 v3 rfl);obtain ⟨a4,n4,c4,S,h4,e9,fS⟩:=zEm (zAM Tryz.underlying54 hr 4 51 4 rfl c40 v4 rfl);obtain ⟨a5,n5,c5,L,h5,Na,fL⟩:=zCq N fu _ y (by omega) l1 l2;injection h0 with h0;injection h1 with h1;injection h2 with h2;injection h3 with h3;injection h4 with h4;simp at h5;subst h0 h1 h2 h3 h4 h5;obtain ⟨C5,s5,e5⟩:=Na;exact ⟨.mk n0 n1 n2 s S L,.mk C5 e9 s5 e5,.mk fS fL.1 fL.2⟩)
  obtain ⟨l,hl,il⟩:=zBw n f;refine ⟨a,n,c,l,rfl,⟨C,by rw [hl];exact hS,fun i hi=>?_⟩,by rw [hl];exact hb,fun i hi=>?_⟩
  ·rw [il i hi]
   exact (hf i (by omega)).1
  ·rw [il i hi]
   exact (hf i (by omega)).2
theorem open_exprs {cs:List Value} (h:Rd0 enc w 52 cs):∃ a n c l,cs=[.slice a n c]/\HExs (fun _=>True) w (.slice a n c) l/\FitXs l:=by
 obtain ⟨fuel,x,h,hw⟩:=h;exact zCq _ fuel cs x (Nat.lt_succ_self _) h hw
structure FitQ (q:Eqn):Prop where
 names:q.names.length*16<=140737488355328
 S:FitS q.S
 E:FitXs q.E
structure FitN (d:Nd):Prop where
 sizes:d.sizes.length*16<=140737488355328
 inn:FitD d.inn
 out:FitD d.out
 loc:FitD d.loc
 eqs:d.eqs.length*96<=140737488355328
 each:∀ i (h:i<d.eqs.length),FitQ d.eqs[i]
def FitP (l:List Nd):Prop:=l.length*144<=140737488355328/\∀ i (h:i<l.length),FitN l[i]
theorem open_eq {cs:List Value} (hr:Rd0 enc w 56 cs):∃ (q:Eqn) (x:EqV),cs=x.cells/\HEq (fun _=>True) w x q/\FitQ q:=by
 have hl:=zDm Tryz.underlying56 hr;rw [c43] at hl
 match cs,hl with
 | [v0,v1,v2,v3,v4],_=>
  obtain ⟨n0,h0⟩:=zBX (k:=.i64) Tryz.underlying3 (zAM Tryz.underlying56 hr 0 3 0 rfl c3 v0 rfl);obtain ⟨a1,n1,c1,l1,h1,g1,f1⟩:=zEk (zAM Tryz.underlying56 hr 1 43 1 rfl c35 v1 rfl);obtain ⟨s,h2⟩:=zBh (zAM Tryz.underlying56 hr 2 9 2 rfl c9 v2 rfl);obtain ⟨a3,n3,Dc,S,h3,g3,f3⟩:=zEm (zAM Tryz.underlying56 hr 3 51 3 rfl c40 v3 rfl);obtain ⟨a4,n4,c4,E,h4,g4,f4⟩:=open_exprs (zAM Tryz.underlying56 hr 4 52 4 rfl c41 v4 rfl);injection h0 with h0;injection h1 with h1;injection h2 with h2;injection h3 with h3;injection h4 with h4;subst h0 h1 h2 h3 h4;exact ⟨⟨n0,l1,s,S,E⟩,⟨n0,a1,n1,c1,s,a3,n3,Dc,a4,n4,c4⟩,rfl,⟨rfl,g1,rfl,g3,g4⟩,⟨f1,f3,f4⟩⟩
theorem open_eqs {cs:List Value} (h:Rd0 enc w 45 cs):∃ a n c l,cs=[.slice a n c]/\HEqs (fun _=>True) w (.slice a n c) l/\l.length*96<=140737488355328/\∀ i (h:i<l.length),FitQ l[i]:=by
 obtain ⟨fuel,x,h,hw⟩:=h;obtain ⟨a,n,c,C,m,D,Pl,rfl,hS,hb,hx⟩:=zBW (bytes:=96) Tryz.underlying45 c43 (by decide) (by kernel_rfl) h hw;obtain ⟨f,hf⟩:=choose_lt (n:=n) (p:=fun i (q:Eqn)=>∃ x:EqV,C i=x.cells/\HEq (fun _=>True) w x q/\FitQ q) (fun i hi=>open_eq ⟨m,_,(hx i hi).1,(hx i hi).2.1⟩);obtain ⟨l,hl,il⟩:=zBw n f;refine ⟨a,n,c,l,rfl,⟨C,by rw [hl];exact hS,fun i hi=>?_⟩,by rw [hl];exact hb,fun i hi=>?_⟩
 ·obtain ⟨u,h1,h2,_⟩:=hf i (by omega)
  rw [il i hi];exact ⟨u,h1,h2⟩
 ·obtain ⟨u,_,_,h3⟩:=hf i (by omega)
  rw [il i hi];exact h3
theorem open_node {cs:List Value} (hr:Rd0 enc w 47 cs):∃ (d:Nd) (x:NdV),cs=x.cells/\HNd (fun _=>True) w x d/\FitN d:=by
 have hl:=zDm Tryz.underlying47 hr;rw [c39] at hl
 match cs,hl with
 | [v0,v1,v2,v3,v4,v5,v6],_=>
  obtain ⟨s,h0⟩:=zBh (zAM Tryz.underlying47 hr 0 9 0 rfl c9 v0 rfl);obtain ⟨n1,h1⟩:=zBX (k:=.i64) Tryz.underlying3 (zAM Tryz.underlying47 hr 1 3 1 rfl c3 v1 rfl);obtain ⟨a2,n2,Ja,l2,h2,g2,f2⟩:=zEk (zAM Tryz.underlying47 hr 2 43 2 rfl c35 v2 rfl);obtain ⟨a3,n3,Dc,l3,h3,g3,f3⟩:=zDB (zAM Tryz.underlying47 hr 3 44 3 rfl c36 v3 rfl);obtain ⟨a4,n4,c4,l4,h4,g4,f4⟩:=zDB (zAM Tryz.underlying47 hr 4 44 4 rfl c36 v4 rfl);obtain ⟨a5,n5,Mk,l5,h5,g5,f5⟩:=zDB (zAM Tryz.underlying47 hr 5 44 5 rfl c36 v5 rfl);obtain ⟨a6,n6,c6,l6,h6,g6,f6,f7⟩:=open_eqs (zAM Tryz.underlying47 hr 6 45 6 rfl c37 v6 rfl);injection h0 with h0;injection h1 with h1;injection h2 with h2;injection h3 with h3;injection h4 with h4;injection h5 with h5;injection h6 with h6;subst h0 h1 h2 h3 h4 h5 h6;exact ⟨⟨s,n1,l2,l3,l4,l5,l6⟩,⟨s,n1,a2,n2,Ja,a3,n3,Dc,a4,n4,c4,a5,n5,Mk,a6,n6,c6⟩,rfl,⟨rfl,rfl,g2,g3,g4,g5,g6⟩,⟨f2,f3,f4,f5,f6,f7⟩⟩
theorem open_program {cs:List Value} (hr:Rd0 enc w 24 cs):∃ a n c l,cs=[.slice a n c]/\HNds (fun _=>True) w (.slice a n c) l/\FitP l:=by
 have hl:=zDm Tryz.underlying24 hr;rw [c25] at hl
 match cs,hl with
 | [v0],_=>
  obtain ⟨fuel,x,h,hw⟩:=zAM Tryz.underlying24 hr 0 22 0 rfl c23 v0 rfl;obtain ⟨a,n,c,C,m,D,Pl,e,hS,hb,hx⟩:=zBW (bytes:=144) Tryz.underlying22 c39 (by decide) (by kernel_rfl) h hw;obtain ⟨f,hf⟩:=choose_lt (n:=n) (p:=fun i (q:Nd)=>∃ x:NdV,C i=x.cells/\HNd (fun _=>True) w x q/\FitN q) (fun i hi=>open_node ⟨m,_,(hx i hi).1,(hx i hi).2.1⟩);obtain ⟨l,hl,il⟩:=zBw n f;refine ⟨a,n,c,l,e,⟨C,by rw [hl];exact hS,fun i hi=>?_⟩,by rw [hl];exact hb,fun i hi=>?_⟩
  ·obtain ⟨u,h1,h2,_⟩:=hf i (by omega)
   rw [il i hi];exact ⟨u,h1,h2⟩
  ·obtain ⟨u,_,_,h3⟩:=hf i (by omega)
   rw [il i hi];exact h3
end
end Go.Proofs.YtkfgbhlpjkkgfaaGreatDoor
