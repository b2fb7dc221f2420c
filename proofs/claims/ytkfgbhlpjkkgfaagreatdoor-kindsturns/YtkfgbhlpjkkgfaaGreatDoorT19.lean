import Derived.Test.YtkfgbhlpjkkgfaaGreatDoorT18
import Derived.Test.YtkfgbhlpjkkgfaaGreatDoorT17
set_option linter.unusedVariables false
set_option linter.unusedSimpArgs false
set_option maxHeartbeats 64000000
set_option maxRecDepth 100000
namespace Go.Proofs.YtkfgbhlpjkkgfaaGreatDoor
open Go.RowKit Go.IntWalk
namespace Rn
def headC (n:Nd):Int :=
 if isName n.name.data.toList=false then 3
 else if 3<n.sizes.length\/60<n.eqs.length then 7
 else if firstC nameC n.sizes≠0 then firstC nameC n.sizes
 else if n.out.length=0 then 4
 else if declsC n.inn≠0 then declsC n.inn else if declsC n.out≠0 then declsC n.out else declsC n.loc
def ndF (n:Nd):Prop:=nmF n.name/\(∀ s ∈ n.sizes,nmF s)/\(∀ d ∈ n.inn,deF d)/\(∀ d ∈ n.out,deF d)/\(∀ d ∈ n.loc,deF d)
end Rn
theorem ix0 (a b c:Value) (w:World):Sem.run Tryz.prog (Instr.index 185 (.agg #[a,b,c]) (.int .i64 0)) w=.ok a w:=by kernel_rfl
theorem ix1 (a b c:Value) (w:World):Sem.run Tryz.prog (Instr.index 185 (.agg #[a,b,c]) (.int .i64 1)) w=.ok b w:=by kernel_rfl
theorem ix2 (a b c:Value) (w:World):Sem.run Tryz.prog (Instr.index 185 (.agg #[a,b,c]) (.int .i64 2)) w=.ok c w:=by kernel_rfl
theorem zFK {ok:Nat->Prop} {w:World} {x:NdV} {q:Nd} (hx:HNd ok w x q) (hF:Rn.ndF q) :
  Calls Tryz.prog 111 #[.agg #[.string x.name,.int .i64 x.place,.slice x.a2 x.n2 x.c2,.slice x.a3 x.n3 x.c3,.slice x.a4 x.n4 x.c4,.slice x.a5 x.n5 x.c5,.slice x.a6 x.n6 x.c6]] w fun e w'=>e=.returned (.int .i64 (Rn.headC q))/\Below w.heap.size w w':=by
 obtain ⟨nU,nV,rl,nh,rR⟩:=hF;have pu:Hid (∀ V,Below w.heap.size w V->Calls Tryz.prog 148 #[.slice x.a2 x.n2 x.c2,.func (.func 149) #[] #[]] V fun e w'=>e=.returned (.int .i64 (Rn.firstC Rn.nameC q.sizes))/\Below V.heap.size V w'):=zAA (fun V hV=>zCx (hx.sizes.keep hV.size (fun i _ hl=>hV.block i hl)) nV);have H3:Hid (∀ V,Below w.heap.size w V->Calls Tryz.prog 150 #[.slice x.a3 x.n3 x.c3] V fun e w'=>e=.returned (.int .i64 (Rn.declsC q.inn))/\Below V.heap.size V w'):=zAA (fun V hV=>zBQ (hx.inn.keep hV.size (fun i _ hl=>hV.block i hl)) rl);have H4:Hid (∀ V,Below w.heap.size w V->Calls Tryz.prog 150 #[.slice x.a4 x.n4 x.c4] V fun e w'=>e=.returned (.int .i64 (Rn.declsC q.out))/\Below V.heap.size V w'):=zAA (fun V hV=>zBQ (hx.out.keep hV.size (fun i _ hl=>hV.block i hl)) nh);have H5:Hid (∀ V,Below w.heap.size w V->Calls Tryz.prog 150 #[.slice x.a5 x.n5 x.c5] V fun e w'=>e=.returned (.int .i64 (Rn.declsC q.loc))/\Below V.heap.size V w'):=zAA (fun V hV=>zBQ (hx.loc.keep hV.size (fun i _ hl=>hV.block i hl)) rR);have bO:x.name=q.name:=hx.name;obtain ⟨a1,c1,uP,D8,oP,_⟩:=hx.sizes.at;obtain ⟨QZ,Ja,np,Lv,yj,_⟩:=hx.out.at;obtain ⟨P9,Dc,sP,Ec,pD,_⟩:=hx.eqs.at;injection uP with e0 e1 e2;injection np with f0 f1 f2;injection sP with g0 g1 g2;obtain ⟨R,hR⟩:=nmQ (Rn.headC q);rw [<-hR];unfold Rn.headC at hR;rw [<-e1,<-f1,<-g1,<-bO] at hR;rw [<-bO] at nU;rw [<-e1,<-e2] at D8;rw [<-f1,<-f2] at Lv;rw [<-g1,<-g2] at Ec;rw [<-e2] at oP;rw [<-f2] at yj;rw [<-g2] at pD;unfold maxLen at oP yj pD;generalize Rn.firstC Rn.nameC q.sizes=nc at pu hR;generalize Rn.declsC q.inn=d3 at H3 hR;generalize Rn.declsC q.out=d4 at H4 hR;generalize Rn.declsC q.loc=d5 at H5 hR;clear e0 e1 e2 f0 f1 f2 g0 g1 g2 bO hx nV rl nh rR;obtain ⟨nm,pl,a2,n2,c2,a3,n3,c3,a4,n4,c4,a5,n5,c5,a6,n6,c6⟩:=x
 dsimp only at *
 have bp:=fun V=>zBs nm V nU;generalize isName nm.data.toList=nb at bp hR;have HR:=zAA hR;clear hR nU;obtain ⟨W,hW⟩:=nmQ (w.alloc (.cells #[.string nm,.int .i64 pl,.slice a2 n2 c2,.slice a3 n3 c3,.slice a4 n4 c4,.slice a5 n5 c5,.slice a6 n6 c6] 47 (0,0)));have bA:=zAk hW;have KA:=zBa hW;go_enter Tryz.func111,Tryz.ntmps111;go_upto_region 1 with fail;rw [<-hW];clear hW;have p0:=co KA 0;have p2:=co KA 2;have p6:=co KA 6;simp at p0 p2 p6;go_wp2_with fail;refine (bp _).mono ?_;rintro e w2 ⟨rfl,rfl⟩;clear bp
 cases nb
 case false=>
  have hR:=HR.out;rw [if_pos rfl] at hR;clear HR;subst hR;go_wp2;go_ret;exact ⟨rfl,bA⟩
 case true=>
  by_cases h1:3<n2
  ·have rm:(3:Int)<(n2:Int):=by omega
   have hR:=HR.out;rw [if_neg (by decide),if_pos (.inl h1)] at hR;clear HR;subst hR;go_wp2;go_ret;exact ⟨rfl,bA⟩
  have rm:¬(3:Int)<(n2:Int):=(by omega);by_cases h2:60<n6
  ·have xJ:(60:Int)<(n6:Int):=by omega
   have hR:=HR.out;rw [if_neg (by decide),if_pos (.inr h2)] at hR;clear HR;subst hR;go_wp2;go_ret;exact ⟨rfl,bA⟩
  have xJ:¬(60:Int)<(n6:Int):=(by omega);have je:=pu.out w2 bA;go_wp2_with fail;refine je.mono ?_;rintro e w3 ⟨rfl,b3⟩;clear je p0 p2 p6;have B3:=bA.trans (b3.mono bA.size);have K3:=(b3.block _ (zAB KA)).trans KA;by_cases eR:nc=0
  case neg=>
   have hR:=HR.out;rw [if_neg (by decide),if_neg (by omega),if_pos eR] at hR;clear HR;subst hR;go_wp2;go_ret;exact ⟨rfl,B3⟩
  subst eR;have r3:=co K3 3;have r4:=co K3 4;have r5:=co K3 5;simp at r3 r4 r5;by_cases h4:n4=0
  ·subst h4
   have hR:=HR.out;rw [if_neg (by decide),if_neg (by omega),if_neg (by simp),if_pos rfl] at hR;clear HR;subst hR;go_wp2;go_ret;exact ⟨rfl,B3⟩
  have Ms:¬(n4:Int)=0:=(by omega);go_upto_region 11 with fail;obtain ⟨w4,mL⟩:=nmQ (w3.alloc (.cells #[.slice a3 n3 c3,.slice a4 n4 c4,.slice a5 n5 c5] 185 (0,0)));have b4:=zAk mL;have K4:=zBa mL;rw [<-mL];clear mL r3 r4 r5 K3;have Cd:=zAA h4;clear Ms h4;generalize ((n4:Int)==0)=bn;have B4:=B3.trans (b4.mono B3.size);have s0:=co K4 0;have s1:=co K4 1;have s2:=co K4 2;simp at s0 s1 s2;go_wp2_with fail;go_loopg [40] 3 (fun gh v wr=>∃ i:Nat,i<=3/\gh=3-i/\v=.int .i64 (i:Int)/\Hid (0<i->d3=0)/\Hid (1<i->d4=0)/\Hid (2<i->d5=0)/\Below w4.heap.size w4 wr)
  case atStart=>exact ⟨0,by omega,rfl,rfl,zAA (fun h=>absurd h (by omega)),zAA (fun h=>absurd h (by omega)),zAA (fun h=>absurd h (by omega)),Below.refl _ _⟩
  case round=>
   obtain ⟨i,Qi,rfl,rfl,E3,E4,E5,bR⟩:=hrel;have BR:=B4.trans (bR.mono B4.size);clear s0 s1 s2;have gq:i=0\/i=1\/i=2\/i=3:=(by omega);rcases gq with rfl | rfl | rfl | rfl
   rotate_left 3
   ·have nM:d3=0:=E3.out (by omega)
    have Lb:d4=0:=E4.out (by omega);have iB:d5=0:=E5.out (by omega);have hR:=HR.out;rw [if_neg (by decide),if_neg (by omega),if_neg (by simp),if_neg Cd.out,if_neg (by omega),if_neg (by omega)] at hR;rw [iB] at hR;clear HR;subst hR;go_wp2;go_ret;exact ⟨rfl,BR⟩
   ·skip
    have hd:=H3.out wr BR;have gg:=ix0 (.slice a3 n3 c3) (.slice a4 n4 c4) (.slice a5 n5 c5) wr;go_wp2_with fail;refine hd.mono ?_;rintro e w6 ⟨rfl,b6⟩;clear hd;have B6:=BR.trans (b6.mono BR.size);by_cases hz:d3=0
    case neg=>
     have hR:=HR.out;rw [if_neg (by decide),if_neg (by omega),if_neg (by simp),if_neg Cd.out,if_pos hz] at hR;clear HR;subst hR;go_wp2;go_ret;exact ⟨rfl,B6⟩
    subst hz;go_wp2_with fail;go_roundg (3-(0+1))
    case measure=>omega
    case rel=>exact ⟨1,by omega,rfl,by go_num,zAA (fun _=>by trivial),zAA (fun h=>absurd h (by omega)),zAA (fun h=>absurd h (by omega)),bR.trans (b6.mono bR.size)⟩
   ·skip
    have hd:=H4.out wr BR;have gg:=ix1 (.slice a3 n3 c3) (.slice a4 n4 c4) (.slice a5 n5 c5) wr;go_wp2_with fail;refine hd.mono ?_;rintro e w6 ⟨rfl,b6⟩;clear hd;have B6:=BR.trans (b6.mono BR.size);by_cases hz:d4=0
    case neg=>
     have hR:=HR.out;rw [if_neg (by decide),if_neg (by omega),if_neg (by simp),if_neg Cd.out,if_neg (by have:=E3.out (by omega);omega),if_pos hz] at hR;clear HR;subst hR;go_wp2;go_ret;exact ⟨rfl,B6⟩
    subst hz;go_wp2_with fail;go_roundg (3-(1+1))
    case measure=>omega
    case rel=>exact ⟨2,by omega,rfl,by go_num,zAA (fun _=>E3.out (by omega)),zAA (fun _=>by trivial),zAA (fun h=>absurd h (by omega)),bR.trans (b6.mono bR.size)⟩
   ·skip
    have hd:=H5.out wr BR;have gg:=ix2 (.slice a3 n3 c3) (.slice a4 n4 c4) (.slice a5 n5 c5) wr;go_wp2_with fail;refine hd.mono ?_;rintro e w6 ⟨rfl,b6⟩;clear hd;have B6:=BR.trans (b6.mono BR.size);by_cases hz:d5=0
    case neg=>
     have hR:=HR.out;rw [if_neg (by decide),if_neg (by omega),if_neg (by simp),if_neg Cd.out,if_neg (by have:=E3.out (by omega);omega),if_neg (by have:=E4.out (by omega);omega)] at hR;clear HR;subst hR;go_wp2;go_ret;exact ⟨rfl,B6⟩
    subst hz;go_wp2_with fail;go_roundg (3-(2+1))
    case measure=>omega
    case rel=>exact ⟨3,by omega,rfl,by go_num,zAA (fun _=>E3.out (by omega)),zAA (fun _=>E4.out (by omega)),zAA (fun _=>by trivial),bR.trans (b6.mono bR.size)⟩
end Go.Proofs.YtkfgbhlpjkkgfaaGreatDoor
namespace Go.Proofs.YtkfgbhlpjkkgfaaGreatDoor
open Go.RowKit Go.IntWalk
namespace Rn
def goE:List Eqn->Nat->Option (Int × Int)
 | [],_=>none
 | q :: l,k=>if eqC q=0 then goE l (k+1) else some (eqC q,(k:Int))
def goN:List Nd->Nat->Nat->Int × Int
 | [],_,_=>(0,0)
 | n :: l,i,k=>if headC n=0 then (goE n.eqs k).getD (goN l (i+1) (k+n.eqs.length)) else (headC n,-2-(i:Int))
def nodesC (l:List Nd):Int × Int:=if l.length=0 then (9,-1) else if 10<l.length then (7,-1) else goN l 0 0
def nsF (l:List Nd):Prop:=∀ n ∈ l,ndF n/\n.eqs.length<=1000000/\∀ q ∈ n.eqs,eqF q
theorem goE_at {l:List Eqn} {j k:Nat} (h:j<l.length):goE (l.drop j) k=if eqC l[j]=0 then goE (l.drop (j+1)) (k+1) else some (eqC l[j],(k:Int)):=by
 rw [List.drop_eq_getElem_cons h,goE]
theorem goN_at {l:List Nd} {i k:Nat} (h:i<l.length):goN (l.drop i) i k=if headC l[i]=0 then (goE l[i].eqs k).getD (goN (l.drop (i+1)) (i+1) (k+l[i].eqs.length)) else (headC l[i],-2-(i:Int)):=by
 rw [List.drop_eq_getElem_cons h,goN]
end Rn
theorem zFL {ok:Nat->Prop} {w:World} {v:Value} {l:List Nd} (hl:HNds ok w v l) (hg:GlobS w) (hF:Rn.nsF l) :
  Calls Tryz.prog 78 #[v] w fun e w'=>e=.returned (.agg #[.int .i64 (Rn.nodesC l).1,.int .i64 (Rn.nodesC l).2])/\Below w.heap.size w w':=by
 obtain ⟨ao,cap,rfl,aC,av,ai⟩:=hl.at;unfold maxLen at av;obtain ⟨R,hR⟩:=nmQ (Rn.nodesC l);rw [<-hR];unfold Rn.nodesC at hR;have HR:=zAA hR;have HF:=zAA hF;have tS:=zAA ai;have HG:=zAA hg;obtain ⟨n,hn⟩:=nmQ (l.length);rw [<-hn] at aC ⊢;have HN:=zAA hn;clear hn hl ai hg hF hR;obtain ⟨W,hW⟩:=nmQ (w.alloc (.cells #[.int .i64 0,.int .i64 0] 29 (0,0)));have bA:=zAk hW;have KA:=zBa hW;go_enter Tryz.func78,Tryz.ntmps78;go_upto_region 1 with fail;rw [<-hW];clear hW;by_cases h0:n=0
 ·subst h0
  have hR:=HR.out;rw [if_pos HN.out.symm] at hR;clear HR;subst hR;have p0:=co KA 0;have p1:=co KA 1;have ff:=fun o=>fo KA o;have K1:=zAD KA 0 (.int .i64 9);have q1:=co K1 1;have fg:=fun o=>fo K1 o;simp at p0 p1 q1;go_wp2;exact bodyPost_ret (v:=.agg #[.int .i64 9,.int .i64 (-1)]) (by simp [results,Tryz.results78,go_sem,p0,p1]) rfl ⟨rfl,(bA.setCell (p:=⟨w.heap.size,0,none⟩) nR _).setCell (p:=⟨w.heap.size,1,none⟩) nR _⟩
 have rK:¬(n:Int)=0:=(by omega);by_cases cQ:10<n
 ·have Ep:(10:Int)<(n:Int):=by omega
  have hR:=HR.out;rw [<-HN.out,if_neg h0,if_pos cQ] at hR;clear HR;subst hR;have p0:=co KA 0;have p1:=co KA 1;have ff:=fun o=>fo KA o;have K1:=zAD KA 0 (.int .i64 7);have q1:=co K1 1;have fg:=fun o=>fo K1 o;simp at p0 p1 q1;go_wp2;exact bodyPost_ret (v:=.agg #[.int .i64 7,.int .i64 (-1)]) (by simp [results,Tryz.results78,go_sem,p0,p1]) rfl ⟨rfl,(bA.setCell (p:=⟨w.heap.size,0,none⟩) nR _).setCell (p:=⟨w.heap.size,1,none⟩) nR _⟩
 have Ep:¬(10:Int)<(n:Int):=(by omega);have hR:=HR.out;rw [<-HN.out,if_neg h0,if_neg cQ] at hR;have CK:=zAA hR;clear hR HR;go_upto_block 1 with fail;go_wp2_with fail;go_loopg [3,22] n (fun gh v3 OY wr=>∃ i k:Nat,i<=n/\gh=n-i/\v3=.int .i64 (k:Int)/\OY=.int .i64 (i:Int)/\k<=1000000*i/\Hid (R=Rn.goN (l.drop i) i k)/\wr.heap[w.heap.size]?=some (.cells #[.int .i64 0,.int .i64 0] 29 (0,0))/\Below w.heap.size w wr)
 case atStart=>exact ⟨0,0,Nat.zero_le _,rfl,rfl,rfl,by omega,zAA (by rw [List.drop_zero];exact CK.out),KA,bA⟩
 case round=>
  obtain ⟨i,k,bH,rfl,rfl,rfl,hk,mo,KR,BR⟩:=hrel;obtain ⟨wo,rY⟩:=nmQ (wr);subst rY;by_cases ak:i<n
  case neg=>
   have eH:i=n:=(by omega);subst eH;have hR:=mo.out;rw [List.drop_eq_nil_of_le (by have:=HN.out;omega),Rn.goN] at hR;clear mo CK;subst hR;have p0:=co KR 0;have p1:=co KR 1;have ff:=fun o=>fo KR o;have K1:=zAD KR 0 (.int .i64 0);have q1:=co K1 1;have fg:=fun o=>fo K1 o;simp at p0 p1 q1;go_wp2;exact bodyPost_ret (v:=.agg #[.int .i64 0,.int .i64 0]) (by simp [results,Tryz.results78,go_sem,p0,p1]) rfl ⟨rfl,(BR.setCell (p:=⟨w.heap.size,0,none⟩) nR _).setCell (p:=⟨w.heap.size,1,none⟩) nR _⟩
  case pos=>
   have lz:(i:Int)<(n:Int):=(by omega);have ap:i<l.length:=(by have:=HN.out;omega);obtain ⟨b,o,y,rfl,hb,hy,hex⟩:=tS.out i ap;obtain ⟨f0,f1,f2,f3,f4,f5,f6⟩:=hy.keep (w':=wo) (BR.block _ hb);have EJ:=HF.out l[i] (List.getElem_mem ap);obtain ⟨W1,jn⟩:=nmQ (wo.alloc (.cells #[.string y.name,.int .i64 y.place,.slice y.a2 y.n2 y.c2,.slice y.a3 y.n3 y.c3,.slice y.a4 y.n4 y.c4,.slice y.a5 y.n5 y.c5,.slice y.a6 y.n6 y.c6] 47 (0,0)));have b1:=zAk jn;have B1:=BR.trans (b1.mono BR.size);have ag:=zFK (hex.under B1) EJ.1;have om:=zAA (hex);have Gf:=zAA EJ;generalize AU:Rn.headC l[i]=c at ag;have qD:=zAA AU;clear AU EJ hex hy;rw [jn] at ag;go_wp2_with fail;refine ag.mono ?_;rintro e w2 ⟨rfl,b2⟩;rw [<-jn] at b2;have Pq:=b1.trans (b2.mono b1.size);have B2:=B1.trans (b2.mono B1.size);have Bi:=(Pq.block _ (zAB KR)).trans KR;have GL:=zBa jn;have KY:=(b2.block _ (zAB GL)).trans GL;clear GL jn ag f0 f1 f2 f3 f4 f5 f6;have LN:i<=10:=(by omega);by_cases hz:c=0
   case neg=>
    have hR:=mo.out;rw [Rn.goN_at ap,if_neg (by rw [qD.out];exact hz),qD.out] at hR;clear mo CK qD;subst hR;have p0:=co Bi 0;have p1:=co Bi 1;have ff:=fun o=>fo Bi o;have K1:=zAD Bi 0 (.int .i64 c);have q1:=co K1 1;have fg:=fun o=>fo K1 o;simp at p0 p1 q1;go_wp2;exact bodyPost_ret (v:=.agg #[.int .i64 c,.int .i64 (-2-(i:Int))]) (by simp [results,Tryz.results78,go_sem,p0,p1]) rfl ⟨rfl,(B2.setCell (p:=⟨w.heap.size,0,none⟩) nR _).setCell (p:=⟨w.heap.size,1,none⟩) nR _⟩
   subst hz;have hR:=mo.out;rw [Rn.goN_at ap,if_pos qD.out] at hR;obtain ⟨a6,c6,ud,dh,dK,nw⟩:=om.out.eqs.at;have Li:=Gf.out.2.1;have JM:=zAA Gf.out.2.2;have zG:=zAA nw;generalize l[i].eqs=E at hR ud dh nw zG Li JM;obtain ⟨G,hG⟩:=nmQ (Rn.goN (l.drop (i+1)) (i+1) (k+E.length));rw [<-hG] at hR;have qi:=zAA hG;have Is:=zAA hR;obtain ⟨m,hm⟩:=nmQ (E.length);have HM:=zAA hm;injection ud with e0 e1 e2;obtain ⟨yn,yp,a2,n2,c2,a3,n3,c3,a4,n4,c4,a5,n5,c5,Qv,uA,QM⟩:=y
   dsimp only at e0 e1 e2 KY
   subst e0;subst e2;have e3:=e1.trans hm.symm;subst e3;unfold maxLen at dK;rw [<-hm] at dh Li;clear hR hG hm e1 nw mo qD om Gf CK;have p6:=co KY 6;simp at p6;clear KY;go_upto_block 3 with fail;go_wp2_with fail;go_loopg [3,38] uA (fun gh v3 Oz wr=>∃ j:Nat,j<=uA/\gh=uA-j/\v3=.int .i64 ((k+j:Nat):Int)/\Oz=.int .i64 (j:Int)/\Hid (R=(Rn.goE (E.drop j) (k+j)).getD G)/\wr.heap[w.heap.size]?=some (.cells #[.int .i64 0,.int .i64 0] 29 (0,0))/\Below w.heap.size w wr)
   case atStart=>exact ⟨0,Nat.zero_le _,rfl,by simp,rfl,zAA (by rw [List.drop_zero];exact Is.out),Bi,B2⟩
   case round=>
    obtain ⟨j,Qd,rfl,rfl,rfl,HJ,KJ,BJ⟩:=hrel;by_cases hjt:j<uA
    case neg=>
     have pF:j=uA:=(by omega);subst pF;have hR:=HJ.out;rw [List.drop_eq_nil_of_le (by have:=HM.out;omega),Rn.goE] at hR;have EF:Hid (R=Rn.goN (l.drop (i+1)) (i+1) (k+j)):=zAA (by rw [hR,HM.out];exact qi.out);clear hR HJ;go_wp2_with fail;go_roundg (n-(i+1))
     case measure=>omega
     case rel=>exact ⟨i+1,k+j,by omega,rfl,rfl,by go_num,by omega,EF,KJ,BJ⟩
    case pos=>
     have Qu:(j:Int)<(uA:Int):=(by omega);have cM:j<E.length:=(by have:=HM.out;omega);obtain ⟨b',o',z,db,Nv,JB,wH⟩:=zG.out j cM;subst db;obtain ⟨g0,g1,g2,g3,g4⟩:=JB.keep (w':=wr) (BJ.block _ Nv);obtain ⟨W3,jN⟩:=nmQ (wr.alloc (.cells #[.int .i64 z.place,.slice z.aN z.nN z.cN,.string z.node,.slice z.aS z.nS z.cS,.slice z.aE z.nE z.cE] 56 (0,0)));have b3:=zAk jN;have B3:=BJ.trans (b3.mono BJ.size);have ag:=zDK (wH.under B3) (HG.out.under B3) (JM.out _ (List.getElem_mem cM));generalize AU:Rn.eqC E[j]=c at ag;have qD:=zAA AU;clear AU wH JB;rw [jN] at ag;go_wp2_with fail;refine ag.mono ?_;rintro e w4 ⟨rfl,b4⟩;rw [<-jN] at b4;have LQ:=b3.trans (b4.mono b3.size);have B4:=B3.trans (b4.mono B3.size);have yd:=(LQ.block _ (zAB KJ)).trans KJ;clear ag jN g0 g1 g2 g3 g4;by_cases hz:c=0
     case neg=>
      have hR:=HJ.out;rw [Rn.goE_at cM,if_neg (by rw [qD.out];exact hz),qD.out,Option.getD_some] at hR;clear HJ Is qD;subst hR;have p0:=co yd 0;have p1:=co yd 1;have ff:=fun o=>fo yd o;have K1:=zAD yd 0 (.int .i64 c);have q1:=co K1 1;have fg:=fun o=>fo K1 o;simp at p0 p1 q1;go_wp2;exact bodyPost_ret (v:=.agg #[.int .i64 c,.int .i64 ((k+j:Nat):Int)]) (by simp [results,Tryz.results78,go_sem,p0,p1]) rfl ⟨rfl,(B4.setCell (p:=⟨w.heap.size,0,none⟩) nR _).setCell (p:=⟨w.heap.size,1,none⟩) nR _⟩
     subst hz;have EF:Hid (R=(Rn.goE (E.drop (j+1)) (k+(j+1))).getD G):=zAA (by
      have hR:=HJ.out;rw [Rn.goE_at cM,if_pos qD.out] at hR;exact hR)
     have pJ:k+j<=20000000:=(by omega);go_wp2_with fail;go_roundg (uA-(j+1))
     case measure=>omega
     case rel=>exact ⟨j+1,by omega,rfl,by go_num,by go_num,EF,yd,B4⟩
end Go.Proofs.YtkfgbhlpjkkgfaaGreatDoor
namespace Go.Proofs.YtkfgbhlpjkkgfaaGreatDoor
open Go.RowKit Go.IntWalk
theorem firstC_all {α:Type} {f:α->Int}:∀ {l:List α},Rn.firstC f l=0->∀ x ∈ l,f x=0
 | [],_,x,hx=>by simp at hx
 | y :: l,h,x,hx=>by
  unfold Rn.firstC at h;by_cases h0:f y=0
  ·rw [if_pos h0] at h
   rcases List.mem_cons.1 hx with rfl | hm
   ·exact h0
   ·exact firstC_all h x hm
  ·rw [if_neg h0] at h
   exact absurd h h0
theorem zCS {s:ByteArray} (h:isName s.data.toList=true):okS s:=by
 unfold isName at h;simp only [Bool.and_eq_true,decide_eq_true_eq] at h;have:=h.1.1.1.2;unfold okS;have e:s.size=s.data.toList.length:=(by rw [Array.length_toList];rfl);omega
theorem zDs {s:ByteArray} (h:Rn.nameC s=0):okS s:=by
 unfold Rn.nameC at h;by_cases hn:isName s.data.toList=true
 ·exact zCS hn
 ·rw [if_neg hn] at h;exact absurd h (by decide)
theorem zDt {s:ByteArray} (h:s.size=0):okS s:=by unfold okS;omega
theorem okT_of {t:Tm} (h:Rn.termC t=0):okT t:=by
 unfold Rn.termC at h;by_cases h1:t.1 <= -1000000000000000000\/1000000000000000000<=t.1
 ·rw [if_pos h1] at h;exact absurd h (by decide)
 rw [if_neg h1] at h;refine ⟨by omega,by omega,?_⟩;by_cases h2:t.2.size=0
 ·exact zDt h2
 ·rw [if_neg h2] at h;exact zDs h
theorem okZ_of {s:List Tm} (h:Rn.sizeC s=0):okZ s:=by
 unfold Rn.sizeC at h;by_cases h1:s.length=0
 ·rw [if_pos h1] at h;exact absurd h (by decide)
 rw [if_neg h1] at h;by_cases h2:30<s.length
 ·rw [if_pos h2] at h;exact absurd h (by decide)
 rw [if_neg h2] at h;exact fun x hx=>okT_of (firstC_all h x hx)
theorem okD_of {d:De} (h:Rn.declC d=0):okD d:=by
 unfold Rn.declC at h;by_cases h1:isName d.name.data.toList=false
 ·rw [if_pos h1] at h;exact absurd h (by decide)
 rw [if_neg h1] at h;by_cases h2:d.elem≠105/\d.elem≠98
 ·rw [if_pos h2] at h;exact absurd h (by decide)
 rw [if_neg h2] at h;refine ⟨zCS (by simpa using h1),?_⟩;by_cases h3:d.n.length=0
 ·intro x hx
  rw [List.eq_nil_of_length_eq_zero h3] at hx;simp at hx
 ·rw [if_neg h3] at h;exact okZ_of h
theorem okDs_of {l:List De} (h:Rn.declsC l=0):∀ d ∈ l,okD d:=by
 unfold Rn.declsC at h;by_cases h1:30<l.length
 ·rw [if_pos h1] at h;exact absurd h (by decide)
 rw [if_neg h1] at h;exact fun x hx=>okD_of (firstC_all h x hx)
mutual
theorem okE_of:∀ (e:Ex),Rn.partC e=0->okE e
 | .mk op k n name S L,h=>by
  rw [Rn.partC] at h;by_cases h1:Rn.formOk (.mk op k n name S L)=false
  ·rw [if_pos h1] at h;exact absurd h (by decide)
  rw [if_neg h1] at h;by_cases h2:op=3/\isName name.data.toList=false
  ·rw [if_pos h2] at h;exact absurd h (by decide)
  rw [if_neg h2] at h;by_cases h3:n<0\/1000000000000000000<=n
  ·rw [if_pos h3] at h;exact absurd h (by decide)
  rw [if_neg h3] at h;by_cases h4:Rn.firstC Rn.sizeC S≠0
  ·rw [if_pos h4] at h;exact absurd h h4
  rw [if_neg h4] at h;have hF:Rn.formOk (.mk op k n name S L)=true:=(by simpa using h1);rw [okE];refine ⟨hF,by omega,?_,fun s hs=>okZ_of (firstC_all (by simpa using h4) s hs),okEs_of L h⟩;by_cases h5:op=3
  ·exact zCS (by
    cases hh:isName name.data.toList
    ·exact absurd ⟨h5,hh⟩ h2
    ·rfl)
  ·have nV:=hF
   simp only [Rn.formOk,Bool.and_eq_true,Bool.or_eq_true,decide_eq_true_eq,Ex.op,Ex.name] at nV;rcases nV.2.2 with h6 | h6
   ·exact absurd (of_decide_eq_true h6) h5
   ·exact zDt (of_decide_eq_true h6)
theorem okEs_of:∀ (l:List Ex),Rn.partsC l=0->okEs l
 | [],_=>by rw [okEs];exact True.intro
 | x :: l,h=>by
  rw [Rn.partsC] at h;by_cases h1:Rn.partC x=0
  ·rw [if_pos h1] at h
   rw [okEs];exact ⟨okE_of x h1,okEs_of l h⟩
  ·rw [if_neg h1] at h;exact absurd h h1
end
theorem okX_of {e:Ex} (h:Rn.exprC e=0):okE e:=by
 unfold Rn.exprC at h;by_cases h1:30<parts e
 ·rw [if_pos h1] at h;exact absurd h (by decide)
 ·rw [if_neg h1] at h;exact okE_of e h
theorem okQ_of {q:Eqn} (h:Rn.eqC q=0):okQ q:=by
 unfold Rn.eqC at h;by_cases h1:q.names.length=0\/(q.node.size=0/\¬(q.names.length=1/\q.E.length=1/\q.S.length=0))
 ·rw [if_pos h1] at h;exact absurd h (by decide)
 rw [if_neg h1] at h;by_cases h2:30<q.names.length\/30<q.E.length\/3<q.S.length
 ·rw [if_pos h2] at h;exact absurd h (by decide)
 rw [if_neg h2] at h;by_cases h3:Rn.firstC Rn.nameC q.names≠0\/(q.node.size≠0/\isName q.node.data.toList=false)
 ·rw [if_pos h3] at h;exact absurd h (by decide)
 rw [if_neg h3] at h;by_cases h4:Rn.firstC Rn.sizeC q.S≠0
 ·rw [if_pos h4] at h;exact absurd h h4
 rw [if_neg h4] at h;refine ⟨fun s hs=>zDs (firstC_all (by have:=fun e=>h3 (.inl e);simpa using this) s hs),?_,fun s hs=>okZ_of (firstC_all (by simpa using h4) s hs),fun e he=>okX_of (firstC_all h e he),fun h0=>?_⟩
 ·by_cases h5:q.node.size=0
  ·exact zDt h5
  ·exact zCS (by
    cases hh:isName q.node.data.toList
    ·exact absurd (.inr ⟨h5,hh⟩) h3
    ·rfl)
 ·by_cases h6:0<q.E.length
  ·exact h6
  ·exact absurd (.inr ⟨h0,fun e=>by omega⟩) h1
theorem okN_of {n:Nd} (h:Rn.headC n=0) (h2:∀ q ∈ n.eqs,Rn.eqC q=0):okN n:=by
 unfold Rn.headC at h;by_cases h1:isName n.name.data.toList=false
 ·rw [if_pos h1] at h;exact absurd h (by decide)
 rw [if_neg h1] at h;by_cases h3:3<n.sizes.length\/60<n.eqs.length
 ·rw [if_pos h3] at h;exact absurd h (by decide)
 rw [if_neg h3] at h;by_cases h4:Rn.firstC Rn.nameC n.sizes≠0
 ·rw [if_pos h4] at h;exact absurd h h4
 rw [if_neg h4] at h;by_cases h5:n.out.length=0
 ·rw [if_pos h5] at h;exact absurd h (by decide)
 rw [if_neg h5] at h;by_cases h6:Rn.declsC n.inn≠0
 ·rw [if_pos h6] at h;exact absurd h h6
 rw [if_neg h6] at h;by_cases h7:Rn.declsC n.out≠0
 ·rw [if_pos h7] at h;exact absurd h h7
 rw [if_neg h7] at h;exact ⟨zCS (by simpa using h1),fun s hs=>zDs (firstC_all (by simpa using h4) s hs),okDs_of (by simpa using h6),okDs_of (by simpa using h7),okDs_of h,fun q hq=>okQ_of (h2 q hq)⟩
theorem goE_none:∀ {l:List Eqn} {k:Nat} {d:Int × Int},((Rn.goE l k).getD d).1=0->(∀ q ∈ l,Rn.eqC q=0)/\Rn.goE l k=none
 | [],k,d,_=>⟨fun q hq=>by simp at hq,by rw [Rn.goE]⟩
 | q :: l,k,d,h=>by
  rw [Rn.goE] at h ⊢;by_cases h0:Rn.eqC q=0
  ·rw [if_pos h0] at h ⊢
   have ih:=goE_none h;exact ⟨fun x hx=>(List.mem_cons.1 hx).elim (fun e=>e ▸ h0) (ih.1 x),ih.2⟩
  ·rw [if_neg h0] at h
   exact absurd h h0
theorem goN_none:∀ {l:List Nd} {i k:Nat},(Rn.goN l i k).1=0->∀ n ∈ l,okN n
 | [],i,k,_,n,hn=>by simp at hn
 | m :: l,i,k,h,n,hn=>by
  rw [Rn.goN] at h;by_cases h0:Rn.headC m=0
  ·rw [if_pos h0] at h
   have h1:=goE_none h;rw [h1.2] at h;rcases List.mem_cons.1 hn with rfl | hm
   ·exact okN_of h0 h1.1
   ·exact goN_none h n hm
  ·rw [if_neg h0] at h
   exact absurd h h0
theorem nodesC_ok {l:List Nd} (h:(Rn.nodesC l).1=0):∀ n ∈ l,okN n:=by
 unfold Rn.nodesC at h;by_cases h1:l.length=0
 ·rw [if_pos h1] at h;exact absurd h (by decide)
 rw [if_neg h1] at h;by_cases h2:10<l.length
 ·rw [if_pos h2] at h;exact absurd h (by decide)
 rw [if_neg h2] at h;exact goN_none h
theorem HNds.wide {ok ok':Nat->Prop} {w:World} {v:Value} {l:List Nd} (h:HNds ok w v l) (hk:∀ i,ok i->i<w.heap.size->ok' i):HNds ok' w v l:=by
 obtain ⟨C,h1,h2⟩:=h;refine ⟨C,h1.wide hk,fun i hi=>?_⟩;obtain ⟨x,e,hx⟩:=h2 i hi;exact ⟨x,e,hx.wide hk⟩
theorem HNd.step {ok:Nat->Prop} {w W:World} {x:NdV} {n:Nd} {L:Nat} (h:HNd ok w x n) (k:Keep ok w W):HNd (okL ok L) W x n:=(h.keep k.size k.block).wide fun i hi _=>.inl hi
theorem HNds.step {ok:Nat->Prop} {w W:World} {v:Value} {l:List Nd} {L:Nat} (h:HNds ok w v l) (k:Keep ok w W):HNds (okL ok L) W v l:=(h.keep k.size k.block).wide fun i hi _=>.inl hi
theorem programW_any {ok:Nat->Prop} {w:World} {b:Nat} {t:ByteArray} {v:Value} {l:List Nd} (hw:Wr ok w b t) (hg:Gl ok w) (hl:HNds ok w v l) (hs:∀ n ∈ l,okN n) :
  Calls Tryz.prog 79 #[.pointer (some ⟨b,0,none⟩),.agg #[v]] w (WPost ok w b t (Tx.progP l)):=by
 obtain ⟨ao,cap,rfl,aC,av,_⟩:=hl.at;unfold maxLen at av;have HS:=zAA hs;clear hs;obtain ⟨n,hn⟩:=nmQ (l.length);rw [<-hn] at aC hl ⊢;have HN:=zAA hn;clear hn;have bS:=hw.more (.cells #[.slice ao n cap] 24 (0,0));have bV:=(hg.keep (Keep.alloc ok w (.cells #[.slice ao n cap] 24 (0,0)))).more w.heap.size;have K0:=Keep.refl (okL ok w.heap.size) (w.alloc (.cells #[.slice ao n cap] 24 (0,0)));have HL:=zAA (fun (W:World) (k1:Keep (okL ok w.heap.size) (w.alloc (.cells #[.slice ao n cap] 24 (0,0))) W)=>(hl.step (L:=w.heap.size) k1.all).at);have HH:=zAA bS;clear hl;go_enter Tryz.func79,Tryz.ntmps79;go_wp2_with fail;go_loopg [9] n (fun k v wr=>∃ i,i<=n/\k=n-i/\v=.int .i64 (i:Nat)/\Hid (Wr (okL ok w.heap.size) wr b (Tx.puts t (Tx.rowP (fun _ n=>Tx.nodeP n) 0 (l.take i))))/\Keep (okL ok w.heap.size) (w.alloc (.cells #[.slice ao n cap] 24 (0,0))) wr)
 case atStart=>exact ⟨0,Nat.zero_le _,rfl,rfl,zAA (by simpa [Tx.puts,Tx.rowP] using HH.out),K0⟩
 case round=>
  obtain ⟨i,hi,rfl,rfl,H,kr⟩:=hrel;by_cases ak:i<n
  case neg=>
   have bH:i=n:=(by omega);subst bH;go_wp2;go_end0;refine ⟨rfl,?_,kr.all⟩;have:=H.out;rw [List.take_of_length_le (by have:=HN.out;omega)] at this;exact this.fst
  case pos=>
   have ap:i<l.length:=(by have:=HN.out;omega);have HX:=zAA (Tx.puts_take (fun _ n=>Tx.nodeP n) t l i ap);have ep:=HS.out l[i] (List.getElem_mem ap);obtain ⟨fj,bE,e1,_,_,ai⟩:=HL.out wr kr;injection e1 with e2 e3 e4;subst e2 e4;obtain ⟨bl,o,y,e5,iA,hy,Ac⟩:=ai i ap;subst e5;clear ai e3;obtain ⟨d0,d1,d2,d3,d4,d5,d6⟩:=hy;have da:=H.out;generalize l[i]=x at HX ep Ac;obtain ⟨yn,yp,a2,n2,c2,a3,n3,c3,a4,n4,c4,a5,n5,c5,a6,n6,c6⟩:=y
   dsimp only at d0 d1 d2 d3 d4 d5 d6
   generalize Tx.puts t (Tx.rowP (fun _ n=>Tx.nodeP n) 0 (l.take i))=ti at HX da H;clear H;have ew:=da.more (.cells #[.string yn,.int .i64 yp,.slice a2 n2 c2,.slice a3 n3 c3,.slice a4 n4 c4,.slice a5 n5 c5,.slice a6 n6 c6] 47 (0,0));have sA:=((bV.keep kr).keep (Keep.alloc (okL ok w.heap.size) wr (.cells #[.string yn,.int .i64 yp,.slice a2 n2 c2,.slice a3 n3 c3,.slice a4 n4 c4,.slice a5 n5 c5,.slice a6 n6 c6] 47 (0,0)))).more wr.heap.size;go_wp2_with fail;refine (nodeW_any ew sA (Ac.step (Keep.alloc (okL ok w.heap.size) wr (.cells #[.string yn,.int .i64 yp,.slice a2 n2 c2,.slice a3 n3 c3,.slice a4 n4 c4,.slice a5 n5 c5,.slice a6 n6 c6] 47 (0,0)))) ep).mono ?_;rintro e wb ⟨rfl,hb,kb⟩;go_wp2_with fail;go_roundg (n-(i+1))
   case measure=>omega
   case rel=>exact ⟨i+1,by omega,rfl,by go_num,zAA (by rw [HX.out];exact hb.fst),kr.trans kb.all⟩
theorem Wr.init (w:World):Wr (fun i=>i<w.heap.size) (w.alloc (.cells #[.slice none 0 0] 131 (0,0))) w.heap.size ByteArray.empty:=by
 refine ⟨fun k hk=>by simp;omega,by simp,by simp,.slice none 0 0,zAC w _,?_,fun k hk=>by cases hk⟩;exact World.ownsRow_nil _ _ _ _
namespace Tx
def printC (l:List Nd):Int × Int:=if (Rn.nodesC l).1≠0 then Rn.nodesC l else if 12000<(cat (progP l)).size then (7,-1) else (0,0)
def printT (l:List Nd):ByteArray:=if (printC l).1≠0 then ByteArray.empty else cat (progP l)
end Tx
end Go.Proofs.YtkfgbhlpjkkgfaaGreatDoor
