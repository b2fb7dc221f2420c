import Derived.Test.YtkfgbhlpjkkgfaaGreatDoorN22
set_option linter.unusedVariables false
set_option linter.unusedSimpArgs false
set_option maxHeartbeats 64000000
set_option maxRecDepth 100000
namespace Go.Proofs.YtkfgbhlpjkkgfaaGreatDoor
open Go.RowKit Go.IntWalk
namespace Rn
def headC (n:Nd):Int :=
 if isName n.name.data.toList=false then 3
 else if 3<n.sizes.length∨60<n.eqs.length then 7
 else if firstC nameC n.sizes≠0 then firstC nameC n.sizes
 else if n.out.length=0 then 4
 else if declsC n.inn≠0 then declsC n.inn else if declsC n.out≠0 then declsC n.out else declsC n.loc
def ndF (n:Nd):Prop:=nmF n.name∧(∀ s ∈ n.sizes,nmF s)∧(∀ d ∈ n.inn,deF d)∧(∀ d ∈ n.out,deF d)∧(∀ d ∈ n.loc,deF d)
end Rn
theorem ix0 (a b c:Value) (w:World):Sem.run Tryz.prog (Instr.index 185 (.agg #[a,b,c]) (.int .i64 0)) w=.ok a w:=by kernel_rfl
theorem ix1 (a b c:Value) (w:World):Sem.run Tryz.prog (Instr.index 185 (.agg #[a,b,c]) (.int .i64 1)) w=.ok b w:=by kernel_rfl
theorem ix2 (a b c:Value) (w:World):Sem.run Tryz.prog (Instr.index 185 (.agg #[a,b,c]) (.int .i64 2)) w=.ok c w:=by kernel_rfl
theorem codeOfHead_any {ok:Nat→Prop} {w:World} {x:NdV} {q:Nd} (hx:HNd ok w x q) (hF:Rn.ndF q) :
  Calls Tryz.prog 111 #[.agg #[.string x.name,.int .i64 x.place,.slice x.a2 x.n2 x.c2,.slice x.a3 x.n3 x.c3,.slice x.a4 x.n4 x.c4,.slice x.a5 x.n5 x.c5,.slice x.a6 x.n6 x.c6]] w fun e w'=>e=.returned (.int .i64 (Rn.headC q))∧Below w.heap.size w w':=by
 obtain ⟨hF1,hF2,hF3,hF4,hF5⟩:=hF;have HNM:Hid (∀ V,Below w.heap.size w V→Calls Tryz.prog 148 #[.slice x.a2 x.n2 x.c2,.func (.func 149) #[] #[]] V fun e w'=>e=.returned (.int .i64 (Rn.firstC Rn.nameC q.sizes))∧Below V.heap.size V w'):=hide (fun V hV=>firstName_any (hx.sizes.keep hV.size (fun i _ hl=>hV.block i hl)) hF2);have H3:Hid (∀ V,Below w.heap.size w V→Calls Tryz.prog 150 #[.slice x.a3 x.n3 x.c3] V fun e w'=>e=.returned (.int .i64 (Rn.declsC q.inn))∧Below V.heap.size V w'):=hide (fun V hV=>codeOfDecls_any (hx.inn.keep hV.size (fun i _ hl=>hV.block i hl)) hF3);have H4:Hid (∀ V,Below w.heap.size w V→Calls Tryz.prog 150 #[.slice x.a4 x.n4 x.c4] V fun e w'=>e=.returned (.int .i64 (Rn.declsC q.out))∧Below V.heap.size V w'):=hide (fun V hV=>codeOfDecls_any (hx.out.keep hV.size (fun i _ hl=>hV.block i hl)) hF4);have H5:Hid (∀ V,Below w.heap.size w V→Calls Tryz.prog 150 #[.slice x.a5 x.n5 x.c5] V fun e w'=>e=.returned (.int .i64 (Rn.declsC q.loc))∧Below V.heap.size V w'):=hide (fun V hV=>codeOfDecls_any (hx.loc.keep hV.size (fun i _ hl=>hV.block i hl)) hF5);have hnode:x.name=q.name:=hx.name;obtain ⟨a1,c1,hv1,hcN,hcN2,_⟩:=hx.sizes.at;obtain ⟨a2',c2',hv2,hcO,hcO2,_⟩:=hx.out.at;obtain ⟨a3',c3',hv3,hcE,hcE2,_⟩:=hx.eqs.at;injection hv1 with e0 e1 e2;injection hv2 with f0 f1 f2;injection hv3 with g0 g1 g2;obtain ⟨R,hR⟩:=nmQ (Rn.headC q);rw [←hR];unfold Rn.headC at hR;rw [←e1,←f1,←g1,←hnode] at hR;rw [←hnode] at hF1;rw [←e1,←e2] at hcN;rw [←f1,←f2] at hcO;rw [←g1,←g2] at hcE;rw [←e2] at hcN2;rw [←f2] at hcO2;rw [←g2] at hcE2;unfold maxLen at hcN2 hcO2 hcE2;generalize Rn.firstC Rn.nameC q.sizes=nc at HNM hR;generalize Rn.declsC q.inn=d3 at H3 hR;generalize Rn.declsC q.out=d4 at H4 hR;generalize Rn.declsC q.loc=d5 at H5 hR;clear e0 e1 e2 f0 f1 f2 g0 g1 g2 hnode hx hF2 hF3 hF4 hF5;obtain ⟨nm,pl,a2,n2,c2,a3,n3,c3,a4,n4,c4,a5,n5,c5,a6,n6,c6⟩:=x
 dsimp only at *
 have hname:=fun V=>nameT_any nm V hF1;generalize isName nm.data.toList=nb at hname hR;have HR:=hide hR;clear hR hF1;obtain ⟨W,hW⟩:=nmQ (w.alloc (.cells #[.string nm,.int .i64 pl,.slice a2 n2 c2,.slice a3 n3 c3,.slice a4 n4 c4,.slice a5 n5 c5,.slice a6 n6 c6] 47 (0,0)));have bA:=newB hW;have KA:=newK hW;go_enter Tryz.func111,Tryz.ntmps111;go_upto_region 1 with fail;rw [←hW];clear hW;have p0:=co KA 0;have p2:=co KA 2;have p6:=co KA 6;simp at p0 p2 p6;go_wp2_with fail;refine (hname _).mono ?_;rintro e w2 ⟨rfl,rfl⟩;clear hname
 cases nb
 case false=>
  have hR:=HR.out;rw [if_pos rfl] at hR;clear HR;subst hR;go_wp2;go_ret;exact ⟨rfl,bA⟩
 case true=>
  by_cases h1:3<n2
  ·have h1I:(3:Int)<(n2:Int):=by omega
   have hR:=HR.out;rw [if_neg (by decide),if_pos (.inl h1)] at hR;clear HR;subst hR;go_wp2;go_ret;exact ⟨rfl,bA⟩
  have h1I:¬(3:Int)<(n2:Int):=(by omega);by_cases h2:60<n6
  ·have h2I:(60:Int)<(n6:Int):=by omega
   have hR:=HR.out;rw [if_neg (by decide),if_pos (.inr h2)] at hR;clear HR;subst hR;go_wp2;go_ret;exact ⟨rfl,bA⟩
  have h2I:¬(60:Int)<(n6:Int):=(by omega);have hnm:=HNM.out w2 bA;go_wp2_with fail;refine hnm.mono ?_;rintro e w3 ⟨rfl,b3⟩;clear hnm p0 p2 p6;have B3:=bA.trans (b3.mono bA.size);have K3:=(b3.block _ (lt_of KA)).trans KA;by_cases hnc:nc=0
  case neg=>
   have hR:=HR.out;rw [if_neg (by decide),if_neg (by omega),if_pos hnc] at hR;clear HR;subst hR;go_wp2;go_ret;exact ⟨rfl,B3⟩
  subst hnc;have r3:=co K3 3;have r4:=co K3 4;have r5:=co K3 5;simp at r3 r4 r5;by_cases h4:n4=0
  ·subst h4
   have hR:=HR.out;rw [if_neg (by decide),if_neg (by omega),if_neg (by simp),if_pos rfl] at hR;clear HR;subst hR;go_wp2;go_ret;exact ⟨rfl,B3⟩
  have h4I:¬(n4:Int)=0:=(by omega);go_upto_region 11 with fail;obtain ⟨w4,hw4⟩:=nmQ (w3.alloc (.cells #[.slice a3 n3 c3,.slice a4 n4 c4,.slice a5 n5 c5] 185 (0,0)));have b4:=newB hw4;have K4:=newK hw4;rw [←hw4];clear hw4 r3 r4 r5 K3;have HH4:=hide h4;clear h4I h4;generalize ((n4:Int)==0)=bn;have B4:=B3.trans (b4.mono B3.size);have s0:=co K4 0;have s1:=co K4 1;have s2:=co K4 2;simp at s0 s1 s2;go_wp2_with fail;go_loopg [40] 3 (fun gh v wr=>∃ i:Nat,i≤3∧gh=3-i∧v=.int .i64 (i:Int)∧Hid (0<i→d3=0)∧Hid (1<i→d4=0)∧Hid (2<i→d5=0)∧Below w4.heap.size w4 wr)
  case atStart=>exact ⟨0,by omega,rfl,rfl,hide (fun h=>absurd h (by omega)),hide (fun h=>absurd h (by omega)),hide (fun h=>absurd h (by omega)),Below.refl _ _⟩
  case round=>
   obtain ⟨i,hi3,rfl,rfl,E3,E4,E5,bR⟩:=hrel;have BR:=B4.trans (bR.mono B4.size);clear s0 s1 s2;have hcs:i=0∨i=1∨i=2∨i=3:=(by omega);rcases hcs with rfl | rfl | rfl | rfl
   rotate_left 3
   ·have hd3:d3=0:=E3.out (by omega)
    have hd4:d4=0:=E4.out (by omega);have hd5:d5=0:=E5.out (by omega);have hR:=HR.out;rw [if_neg (by decide),if_neg (by omega),if_neg (by simp),if_neg HH4.out,if_neg (by omega),if_neg (by omega)] at hR;rw [hd5] at hR;clear HR;subst hR;go_wp2;go_ret;exact ⟨rfl,BR⟩
   ·skip
    have hd:=H3.out wr BR;have hix:=ix0 (.slice a3 n3 c3) (.slice a4 n4 c4) (.slice a5 n5 c5) wr;go_wp2_with fail;refine hd.mono ?_;rintro e w6 ⟨rfl,b6⟩;clear hd;have B6:=BR.trans (b6.mono BR.size);by_cases hz:d3=0
    case neg=>
     have hR:=HR.out;rw [if_neg (by decide),if_neg (by omega),if_neg (by simp),if_neg HH4.out,if_pos hz] at hR;clear HR;subst hR;go_wp2;go_ret;exact ⟨rfl,B6⟩
    subst hz;go_wp2_with fail;go_roundg (3-(0+1))
    case measure=>omega
    case rel=>exact ⟨1,by omega,rfl,by go_num,hide (fun _=>by trivial),hide (fun h=>absurd h (by omega)),hide (fun h=>absurd h (by omega)),bR.trans (b6.mono bR.size)⟩
   ·skip
    have hd:=H4.out wr BR;have hix:=ix1 (.slice a3 n3 c3) (.slice a4 n4 c4) (.slice a5 n5 c5) wr;go_wp2_with fail;refine hd.mono ?_;rintro e w6 ⟨rfl,b6⟩;clear hd;have B6:=BR.trans (b6.mono BR.size);by_cases hz:d4=0
    case neg=>
     have hR:=HR.out;rw [if_neg (by decide),if_neg (by omega),if_neg (by simp),if_neg HH4.out,if_neg (by have:=E3.out (by omega);omega),if_pos hz] at hR;clear HR;subst hR;go_wp2;go_ret;exact ⟨rfl,B6⟩
    subst hz;go_wp2_with fail;go_roundg (3-(1+1))
    case measure=>omega
    case rel=>exact ⟨2,by omega,rfl,by go_num,hide (fun _=>E3.out (by omega)),hide (fun _=>by trivial),hide (fun h=>absurd h (by omega)),bR.trans (b6.mono bR.size)⟩
   ·skip
    have hd:=H5.out wr BR;have hix:=ix2 (.slice a3 n3 c3) (.slice a4 n4 c4) (.slice a5 n5 c5) wr;go_wp2_with fail;refine hd.mono ?_;rintro e w6 ⟨rfl,b6⟩;clear hd;have B6:=BR.trans (b6.mono BR.size);by_cases hz:d5=0
    case neg=>
     have hR:=HR.out;rw [if_neg (by decide),if_neg (by omega),if_neg (by simp),if_neg HH4.out,if_neg (by have:=E3.out (by omega);omega),if_neg (by have:=E4.out (by omega);omega)] at hR;clear HR;subst hR;go_wp2;go_ret;exact ⟨rfl,B6⟩
    subst hz;go_wp2_with fail;go_roundg (3-(2+1))
    case measure=>omega
    case rel=>exact ⟨3,by omega,rfl,by go_num,hide (fun _=>E3.out (by omega)),hide (fun _=>E4.out (by omega)),hide (fun _=>by trivial),bR.trans (b6.mono bR.size)⟩
end Go.Proofs.YtkfgbhlpjkkgfaaGreatDoor
namespace Go.Proofs.YtkfgbhlpjkkgfaaGreatDoor
open Go.RowKit Go.IntWalk
namespace Rn
def goE:List Eqn→Nat→Option (Int × Int)
 | [],_=>none
 | q :: l,k=>if eqC q=0 then goE l (k+1) else some (eqC q,(k:Int))
def goN:List Nd→Nat→Nat→Int × Int
 | [],_,_=>(0,0)
 | n :: l,i,k=>if headC n=0 then (goE n.eqs k).getD (goN l (i+1) (k+n.eqs.length)) else (headC n,-2-(i:Int))
def nodesC (l:List Nd):Int × Int:=if l.length=0 then (9,-1) else if 10<l.length then (7,-1) else goN l 0 0
def nsF (l:List Nd):Prop:=∀ n ∈ l,ndF n∧n.eqs.length≤1000000∧∀ q ∈ n.eqs,eqF q
theorem goE_at {l:List Eqn} {j k:Nat} (h:j<l.length):goE (l.drop j) k=if eqC l[j]=0 then goE (l.drop (j+1)) (k+1) else some (eqC l[j],(k:Int)):=by
 rw [List.drop_eq_getElem_cons h,goE]
theorem goN_at {l:List Nd} {i k:Nat} (h:i<l.length):goN (l.drop i) i k=if headC l[i]=0 then (goE l[i].eqs k).getD (goN (l.drop (i+1)) (i+1) (k+l[i].eqs.length)) else (headC l[i],-2-(i:Int)):=by
 rw [List.drop_eq_getElem_cons h,goN]
end Rn
theorem checkNodes_any {ok:Nat→Prop} {w:World} {v:Value} {l:List Nd} (hl:HNds ok w v l) (hg:GlobS w) (hF:Rn.nsF l) :
  Calls Tryz.prog 78 #[v] w fun e w'=>e=.returned (.agg #[.int .i64 (Rn.nodesC l).1,.int .i64 (Rn.nodesC l).2])∧Below w.heap.size w w':=by
 obtain ⟨ao,cap,rfl,hc1,hc2,hat⟩:=hl.at;unfold maxLen at hc2;obtain ⟨R,hR⟩:=nmQ (Rn.nodesC l);rw [←hR];unfold Rn.nodesC at hR;have HR:=hide hR;have HF:=hide hF;have HAT:=hide hat;have HG:=hide hg;obtain ⟨n,hn⟩:=nmQ (l.length);rw [←hn] at hc1 ⊢;have HN:=hide hn;clear hn hl hat hg hF hR;obtain ⟨W,hW⟩:=nmQ (w.alloc (.cells #[.int .i64 0,.int .i64 0] 29 (0,0)));have bA:=newB hW;have KA:=newK hW;go_enter Tryz.func78,Tryz.ntmps78;go_upto_region 1 with fail;rw [←hW];clear hW;by_cases h0:n=0
 ·subst h0
  have hR:=HR.out;rw [if_pos HN.out.symm] at hR;clear HR;subst hR;have p0:=co KA 0;have p1:=co KA 1;have ff:=fun o=>fo KA o;have K1:=set_in KA 0 (.int .i64 9);have q1:=co K1 1;have fg:=fun o=>fo K1 o;simp at p0 p1 q1;go_wp2;exact bodyPost_ret (v:=.agg #[.int .i64 9,.int .i64 (-1)]) (by simp [results,Tryz.results78,go_sem,p0,p1]) rfl ⟨rfl,(bA.setCell (p:=⟨w.heap.size,0,none⟩) nR _).setCell (p:=⟨w.heap.size,1,none⟩) nR _⟩
 have h0I:¬(n:Int)=0:=(by omega);by_cases h10:10<n
 ·have h10I:(10:Int)<(n:Int):=by omega
  have hR:=HR.out;rw [←HN.out,if_neg h0,if_pos h10] at hR;clear HR;subst hR;have p0:=co KA 0;have p1:=co KA 1;have ff:=fun o=>fo KA o;have K1:=set_in KA 0 (.int .i64 7);have q1:=co K1 1;have fg:=fun o=>fo K1 o;simp at p0 p1 q1;go_wp2;exact bodyPost_ret (v:=.agg #[.int .i64 7,.int .i64 (-1)]) (by simp [results,Tryz.results78,go_sem,p0,p1]) rfl ⟨rfl,(bA.setCell (p:=⟨w.heap.size,0,none⟩) nR _).setCell (p:=⟨w.heap.size,1,none⟩) nR _⟩
 have h10I:¬(10:Int)<(n:Int):=(by omega);have hR:=HR.out;rw [←HN.out,if_neg h0,if_neg h10] at hR;have HRR:=hide hR;clear hR HR;go_upto_block 1 with fail;go_wp2_with fail;go_loopg [3,22] n (fun gh v3 v22 wr=>∃ i k:Nat,i≤n∧gh=n-i∧v3=.int .i64 (k:Int)∧v22=.int .i64 (i:Int)∧k≤1000000*i∧Hid (R=Rn.goN (l.drop i) i k)∧wr.heap[w.heap.size]?=some (.cells #[.int .i64 0,.int .i64 0] 29 (0,0))∧Below w.heap.size w wr)
 case atStart=>exact ⟨0,0,Nat.zero_le _,rfl,rfl,rfl,by omega,hide (by rw [List.drop_zero];exact HRR.out),KA,bA⟩
 case round=>
  obtain ⟨i,k,hin,rfl,rfl,rfl,hk,HG2,KR,BR⟩:=hrel;obtain ⟨wo,hwo⟩:=nmQ (wr);subst hwo;by_cases hlt:i<n
  case neg=>
   have hie:i=n:=(by omega);subst hie;have hR:=HG2.out;rw [List.drop_eq_nil_of_le (by have:=HN.out;omega),Rn.goN] at hR;clear HG2 HRR;subst hR;have p0:=co KR 0;have p1:=co KR 1;have ff:=fun o=>fo KR o;have K1:=set_in KR 0 (.int .i64 0);have q1:=co K1 1;have fg:=fun o=>fo K1 o;simp at p0 p1 q1;go_wp2;exact bodyPost_ret (v:=.agg #[.int .i64 0,.int .i64 0]) (by simp [results,Tryz.results78,go_sem,p0,p1]) rfl ⟨rfl,(BR.setCell (p:=⟨w.heap.size,0,none⟩) nR _).setCell (p:=⟨w.heap.size,1,none⟩) nR _⟩
  case pos=>
   have hltI:(i:Int)<(n:Int):=(by omega);have hil:i<l.length:=(by have:=HN.out;omega);obtain ⟨b,o,y,rfl,hb,hy,hex⟩:=HAT.out i hil;obtain ⟨f0,f1,f2,f3,f4,f5,f6⟩:=hy.keep (w':=wo) (BR.block _ hb);have hFi:=HF.out l[i] (List.getElem_mem hil);obtain ⟨W1,hW1⟩:=nmQ (wo.alloc (.cells #[.string y.name,.int .i64 y.place,.slice y.a2 y.n2 y.c2,.slice y.a3 y.n3 y.c3,.slice y.a4 y.n4 y.c4,.slice y.a5 y.n5 y.c5,.slice y.a6 y.n6 y.c6] 47 (0,0)));have b1:=newB hW1;have B1:=BR.trans (b1.mono BR.size);have hcall:=codeOfHead_any (hex.under B1) hFi.1;have hx2:=hide (hex);have HFi:=hide hFi;generalize hcv:Rn.headC l[i]=c at hcall;have HCV:=hide hcv;clear hcv hFi hex hy;rw [hW1] at hcall;go_wp2_with fail;refine hcall.mono ?_;rintro e w2 ⟨rfl,b2⟩;rw [←hW1] at b2;have b12:=b1.trans (b2.mono b1.size);have B2:=B1.trans (b2.mono B1.size);have KR2:=(b12.block _ (lt_of KR)).trans KR;have KY1:=newK hW1;have KY:=(b2.block _ (lt_of KY1)).trans KY1;clear KY1 hW1 hcall f0 f1 f2 f3 f4 f5 f6;have hi10:i≤10:=(by omega);by_cases hz:c=0
   case neg=>
    have hR:=HG2.out;rw [Rn.goN_at hil,if_neg (by rw [HCV.out];exact hz),HCV.out] at hR;clear HG2 HRR HCV;subst hR;have p0:=co KR2 0;have p1:=co KR2 1;have ff:=fun o=>fo KR2 o;have K1:=set_in KR2 0 (.int .i64 c);have q1:=co K1 1;have fg:=fun o=>fo K1 o;simp at p0 p1 q1;go_wp2;exact bodyPost_ret (v:=.agg #[.int .i64 c,.int .i64 (-2-(i:Int))]) (by simp [results,Tryz.results78,go_sem,p0,p1]) rfl ⟨rfl,(B2.setCell (p:=⟨w.heap.size,0,none⟩) nR _).setCell (p:=⟨w.heap.size,1,none⟩) nR _⟩
   subst hz;have hR:=HG2.out;rw [Rn.goN_at hil,if_pos HCV.out] at hR;obtain ⟨a6,c6,hv6,hq1,hq2,hqat⟩:=hx2.out.eqs.at;have hFm:=HFi.out.2.1;have HFq:=hide HFi.out.2.2;have HQAT:=hide hqat;generalize l[i].eqs=E at hR hv6 hq1 hqat HQAT hFm HFq;obtain ⟨G,hG⟩:=nmQ (Rn.goN (l.drop (i+1)) (i+1) (k+E.length));rw [←hG] at hR;have HGG:=hide hG;have HRE:=hide hR;obtain ⟨m,hm⟩:=nmQ (E.length);have HM:=hide hm;injection hv6 with e0 e1 e2;obtain ⟨yn,yp,a2,n2,c2,a3,n3,c3,a4,n4,c4,a5,n5,c5,ya6,yn6,yc6⟩:=y
   dsimp only at e0 e1 e2 KY
   subst e0;subst e2;have e3:=e1.trans hm.symm;subst e3;unfold maxLen at hq2;rw [←hm] at hq1 hFm;clear hR hG hm e1 hqat HG2 HCV hx2 HFi HRR;have p6:=co KY 6;simp at p6;clear KY;go_upto_block 3 with fail;go_wp2_with fail;go_loopg [3,38] yn6 (fun gh v3 v38 wr=>∃ j:Nat,j≤yn6∧gh=yn6-j∧v3=.int .i64 ((k+j:Nat):Int)∧v38=.int .i64 (j:Int)∧Hid (R=(Rn.goE (E.drop j) (k+j)).getD G)∧wr.heap[w.heap.size]?=some (.cells #[.int .i64 0,.int .i64 0] 29 (0,0))∧Below w.heap.size w wr)
   case atStart=>exact ⟨0,Nat.zero_le _,rfl,by simp,rfl,hide (by rw [List.drop_zero];exact HRE.out),KR2,B2⟩
   case round=>
    obtain ⟨j,hjm,rfl,rfl,rfl,HJ,KJ,BJ⟩:=hrel;by_cases hjt:j<yn6
    case neg=>
     have hje:j=yn6:=(by omega);subst hje;have hR:=HJ.out;rw [List.drop_eq_nil_of_le (by have:=HM.out;omega),Rn.goE] at hR;have HR9:Hid (R=Rn.goN (l.drop (i+1)) (i+1) (k+j)):=hide (by rw [hR,HM.out];exact HGG.out);clear hR HJ;go_wp2_with fail;go_roundg (n-(i+1))
     case measure=>omega
     case rel=>exact ⟨i+1,k+j,by omega,rfl,rfl,by go_num,by omega,HR9,KJ,BJ⟩
    case pos=>
     have hjI:(j:Int)<(yn6:Int):=(by omega);have hjl:j<E.length:=(by have:=HM.out;omega);obtain ⟨b',o',z,hz0,hbz,hzy,hez⟩:=HQAT.out j hjl;subst hz0;obtain ⟨g0,g1,g2,g3,g4⟩:=hzy.keep (w':=wr) (BJ.block _ hbz);obtain ⟨W3,hW3⟩:=nmQ (wr.alloc (.cells #[.int .i64 z.place,.slice z.aN z.nN z.cN,.string z.node,.slice z.aS z.nS z.cS,.slice z.aE z.nE z.cE] 56 (0,0)));have b3:=newB hW3;have B3:=BJ.trans (b3.mono BJ.size);have hcall:=codeOfEquation_any (hez.under B3) (HG.out.under B3) (HFq.out _ (List.getElem_mem hjl));generalize hcv:Rn.eqC E[j]=c at hcall;have HCV:=hide hcv;clear hcv hez hzy;rw [hW3] at hcall;go_wp2_with fail;refine hcall.mono ?_;rintro e w4 ⟨rfl,b4⟩;rw [←hW3] at b4;have b34:=b3.trans (b4.mono b3.size);have B4:=B3.trans (b4.mono B3.size);have KJ4:=(b34.block _ (lt_of KJ)).trans KJ;clear hcall hW3 g0 g1 g2 g3 g4;by_cases hz:c=0
     case neg=>
      have hR:=HJ.out;rw [Rn.goE_at hjl,if_neg (by rw [HCV.out];exact hz),HCV.out,Option.getD_some] at hR;clear HJ HRE HCV;subst hR;have p0:=co KJ4 0;have p1:=co KJ4 1;have ff:=fun o=>fo KJ4 o;have K1:=set_in KJ4 0 (.int .i64 c);have q1:=co K1 1;have fg:=fun o=>fo K1 o;simp at p0 p1 q1;go_wp2;exact bodyPost_ret (v:=.agg #[.int .i64 c,.int .i64 ((k+j:Nat):Int)]) (by simp [results,Tryz.results78,go_sem,p0,p1]) rfl ⟨rfl,(B4.setCell (p:=⟨w.heap.size,0,none⟩) nR _).setCell (p:=⟨w.heap.size,1,none⟩) nR _⟩
     subst hz;have HR9:Hid (R=(Rn.goE (E.drop (j+1)) (k+(j+1))).getD G):=hide (by
      have hR:=HJ.out;rw [Rn.goE_at hjl,if_pos HCV.out] at hR;exact hR)
     have hkb:k+j≤20000000:=(by omega);go_wp2_with fail;go_roundg (yn6-(j+1))
     case measure=>omega
     case rel=>exact ⟨j+1,by omega,rfl,by go_num,by go_num,HR9,KJ4,B4⟩
end Go.Proofs.YtkfgbhlpjkkgfaaGreatDoor
