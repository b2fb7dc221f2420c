import Derived.Test.YthkpanbgkimhoaaGreatDoorM04
import Derived.Deep.RegionHeld3
set_option linter.unusedVariables false
set_option linter.unusedSimpArgs false
set_option maxHeartbeats 64000000
set_option maxRecDepth 100000
namespace Go.Proofs.YthkpanbgkimhoaaGreatDoor
open Go.RowKit Go.IntWalk
theorem zDo (q:Nat) (HL:ComparesR q) {ok ok':Nat→Prop} {w:World} {v u:Value} {l r:List Ex} (hqq:partsL l<q+1) (hl:HExs ok w v l) (hr:HExs ok' w u r) :
  Calls Tryz.prog 22 #[v,u] w fun e w'=>e=.returned (.bool (eqL xeq l r))∧∃ m,w'=w.drewN m:=by
 obtain ⟨ao,cap,rfl,hc1,hc2,hat⟩:=hl.at;obtain ⟨ao',cap',rfl,hd1,hd2,hat'⟩:=hr.at;unfold maxLen at hc2 hd2;have HQ:=zD hqq;clear hqq;obtain ⟨R,hR⟩:=nm (eqL xeq l r);rw [←hR];have HR:=zD hR;clear hR hl hr;obtain ⟨n,hn⟩:=nm (l.length);obtain ⟨m,hm⟩:=nm (r.length);rw [←hn] at hc1 ⊢;rw [←hm] at hd1 ⊢;have HN:=zD hn;have HM:=zD hm;by_cases hlen:n=m
 ·subst hlen
  have hq:((n:Int) != (n:Int))=false:=(by simp);clear hn hm;go_enter Tryz.func22,Tryz.ntmps22;go_wp2;go_loopg [5] n (fun k v wr=>∃ i d,i≤n∧k=n-i∧v=.int .i64 (i:Nat)∧Hid (∀ j (h:j<l.length) (h':j<r.length),j<i→xeq l[j] r[j]=true)∧wr=w.drewN d)
  case atStart=>exact ⟨0,0,Nat.zero_le _,rfl,rfl,fun j _ _ h=>absurd h (Nat.not_lt_zero _),rfl⟩
  case round=>
   obtain ⟨i,d,hi,rfl,rfl,H,hW⟩:=hrel;have HW:=zD hW;clear hW;by_cases hlt:i<n
   ·have hil:i<l.length:=by have:=HN.out;omega
    have hir:i<r.length:=(by have:=HM.out;omega);obtain ⟨b,o,x,rfl,_,hb,hxa,hx⟩:=hat i hil;obtain ⟨b',o',y,rfl,_,hb',hya,hy⟩:=hat' i hir;obtain ⟨c0,c1,c2,c3,c4,c5⟩:=hxa.keep (w':=wr) (by rw [HW.out];rfl);obtain ⟨d0,d1,d2,d3,d4,d5⟩:=hya.keep (w':=wr) (by rw [HW.out];rfl);obtain ⟨x1,x2,x3,x4,xS,xL⟩:=hx.parts;obtain ⟨y1,y2,y3,y4,yS,yL⟩:=hy.parts;rw [x1] at c0;rw [x2] at c1;rw [x3] at c2;rw [x4] at c3;rw [y1] at d0;rw [y2] at d1;rw [y3] at d2;rw [y4] at d3;obtain ⟨p,hp⟩:=nm (l[i]);obtain ⟨s,hs⟩:=nm (r[i]);have hqi:parts l[i]<q+1:=Nat.lt_of_le_of_lt (parts_mem l i hil) HQ.out;rw [←hp] at c0 c1 c2 c3 xS xL hqi;rw [←hs] at d0 d1 d2 d3 yS yL;have HX:=zD hp;have HY:=zD hs;clear hxa hya hx hy x1 x2 x3 x4 y1 y2 y3 y4 hp hs;obtain ⟨ao,ak,an,am,aS,aL⟩:=p;obtain ⟨bo,bk,bn,bs,bS,bL⟩:=s;simp only [Ex.op,Ex.k,Ex.n,Ex.name,Ex.S,Ex.L] at c0 c1 c2 c3 d0 d1 d2 d3 xS xL yS yL;have hqL:partsL aL<q:=(by rw [parts] at hqi;omega);have callS:=fun z=>jD (w:=wr.drewN z) (xS.under (zBN HW.out z)) (yS.under (zBN HW.out z));have callL:=fun z=>HL _ _ (wr.drewN z) _ _ _ _ hqL (xL.under (zBN HW.out z)) (yL.under (zBN HW.out z));clear xS xL yS yL hqi hqL;clear hat hat'
    cases h0:(ao==bo)
    ·
     have hbad:xeq l[i] r[i]=false:=(by rw [←HX.out,←HY.out];simp [xeq,seq,zAN,h0]);have HBAD:=zD hbad;clear hbad;clear callS callL;have k0:(ao != bo)=true:=(by rw [bne,h0];rfl)
     as_aux_lemma=>
      go_wp2_with fail
      (simp only [List.append_eq,List.cons_append,List.nil_append];go_quiet (first | (go_at_call 21;refine Calls.quiet_of (callS _)) | (go_at_call 22;refine Calls.quiet_of (callL _))))
      go_wp2;go_ret;refine ⟨zV ?_,_,by rw [HW.out];exact World.drewN_drewN _ _ _⟩;rw [HR.out];exact (qV i hil hir HBAD.out).symm
    ·
     have k0:(ao != bo)=false:=(by rw [bne,h0];rfl)
     cases h1:(ak==bk)
     ·
      have hbad:xeq l[i] r[i]=false:=(by rw [←HX.out,←HY.out];simp [xeq,seq,zAN,h0,h1]);have HBAD:=zD hbad;clear hbad;clear callS callL;have k1:(ak != bk)=true:=(by rw [bne,h1];rfl)
      as_aux_lemma=>
       go_wp2_with fail
       (simp only [List.append_eq,List.cons_append,List.nil_append];go_quiet (first | (go_at_call 21;refine Calls.quiet_of (callS _)) | (go_at_call 22;refine Calls.quiet_of (callL _))))
       go_wp2;go_ret;refine ⟨zV ?_,_,by rw [HW.out];exact World.drewN_drewN _ _ _⟩;rw [HR.out];exact (qV i hil hir HBAD.out).symm
     ·
      have k1:(ak != bk)=false:=(by rw [bne,h1];rfl)
      cases h2:(am.toList==bs.toList)
      ·
       have hbad:xeq l[i] r[i]=false:=(by rw [←HX.out,←HY.out];simp [xeq,seq,zAN,h0,h1,h2]);have HBAD:=zD hbad;clear hbad;clear callS callL
       as_aux_lemma=>
        go_wp2_with fail
        (simp only [List.append_eq,List.cons_append,List.nil_append];go_quiet (first | (go_at_call 21;refine Calls.quiet_of (callS _)) | (go_at_call 22;refine Calls.quiet_of (callL _))))
        go_wp2;go_ret;refine ⟨zV ?_,_,by rw [HW.out];exact World.drewN_drewN _ _ _⟩;rw [HR.out];exact (qV i hil hir HBAD.out).symm
      ·
       cases h3:(an==bn)
       ·
        have hbad:xeq l[i] r[i]=false:=(by rw [←HX.out,←HY.out];simp [xeq,seq,zAN,h0,h1,h2,h3]);have HBAD:=zD hbad;clear hbad;clear callS callL;have k3:(an != bn)=true:=(by rw [bne,h3];rfl)
        as_aux_lemma=>
         go_wp2_with fail
         (simp only [List.append_eq,List.cons_append,List.nil_append];go_quiet (first | (go_at_call 21;refine Calls.quiet_of (callS _)) | (go_at_call 22;refine Calls.quiet_of (callL _))))
         go_wp2;go_ret;refine ⟨zV ?_,_,by rw [HW.out];exact World.drewN_drewN _ _ _⟩;rw [HR.out];exact (qV i hil hir HBAD.out).symm
       ·
        have k3:(an != bn)=false:=(by rw [bne,h3];rfl)
        cases h4:eqL (eqL teq) aS bS
        ·
         have hbad:xeq l[i] r[i]=false:=(by rw [←HX.out,←HY.out];simp [xeq,seq,zAN,h0,h1,h2,h3,h4]);have HBAD:=zD hbad;clear hbad;rw [h4] at callS;clear callL
         as_aux_lemma=>
          go_wp2_with fail
          (simp only [List.append_eq,List.cons_append,List.nil_append];go_quiet (first | (go_at_call 21;refine Calls.quiet_of (callS _)) | (go_at_call 22;refine Calls.quiet_of (callL _))))
          go_wp2;go_ret;refine ⟨zV ?_,_,by rw [HW.out];exact World.drewN_drewN _ _ _⟩;rw [HR.out];exact (qV i hil hir HBAD.out).symm
        ·
         rw [h4] at callS
         cases h5:eqL xeq aL bL
         ·
          have hbad:xeq l[i] r[i]=false:=(by rw [←HX.out,←HY.out];simp [xeq,seq,zAN,h0,h1,h2,h3,h4,h5]);have HBAD:=zD hbad;clear hbad;rw [h5] at callL
          as_aux_lemma=>
           go_wp2_with fail
           (simp only [List.append_eq,List.cons_append,List.nil_append];go_quiet (first | (go_at_call 21;refine Calls.quiet_of (callS _)) | (go_at_call 22;refine Calls.quiet_of (callL _))))
           go_wp2;go_ret;refine ⟨zV ?_,_,by rw [HW.out];exact World.drewN_drewN _ _ _⟩;rw [HR.out];exact (qV i hil hir HBAD.out).symm
         ·
          rw [h5] at callL;have hall:xeq l[i] r[i]=true:=(by rw [←HX.out,←HY.out];simp [xeq,seq,zAN,h0,h1,h2,h3,h4,h5]);have HALL:=zD hall;clear hall
          as_aux_lemma=>
           go_wp2_with fail
           (simp only [List.append_eq,List.cons_append,List.nil_append];go_quiet (first | (go_at_call 21;refine Calls.quiet_of (callS _)) | (go_at_call 22;refine Calls.quiet_of (callL _))))
           go_wp2;go_roundg (n-(i+1))
           case measure=>omega
           case rel=>
            refine ⟨i+1,_,by omega,rfl,by go_num,fun j hj hj' hji=>?_,by rw [HW.out];exact World.drewN_drewN _ _ _⟩;by_cases e:j=i
            ·subst e
             exact HALL.out
            ·exact H.out j hj hj' (by omega)
   ·have hie:i=n:=by omega
    subst hie;clear hat hat';go_wp2;go_ret;refine ⟨zV ?_,_,HW.out⟩;rw [HR.out];exact (jI (by rw [←HN.out,←HM.out]) (fun j hj hj'=>H.out j hj hj' (by rw [HN.out];exact hj))).symm
 ·have hq:((n:Int) != (m:Int))=true:=by simp;omega
  clear hat hat' hn hm;go_enter Tryz.func22,Tryz.ntmps22;go_wp2;go_ret;refine ⟨zV ?_,0,rfl⟩;rw [HR.out];exact (zAq (by rw [←HN.out,←HM.out];exact hlen)).symm
theorem comparesR:∀ q,ComparesR q
 | 0=>fun ok ok' w v u l r hq hl hr=>absurd hq (Nat.not_lt_zero _)
 | q+1=>fun ok ok' w v u l r hq hl hr=>zDo q (comparesR q) hq hl hr
theorem jS {ok ok':Nat→Prop} {w:World} {v u:Value} {l r:List Ex} (hl:HExs ok w v l) (hr:HExs ok' w u r) :
  Calls Tryz.prog 22 #[v,u] w fun e w'=>e=.returned (.bool (eqL xeq l r))∧∃ m,w'=w.drewN m:=comparesR (partsL l+1) _ _ _ _ _ _ _ (Nat.lt_succ_self _) hl hr
theorem zCZ {ok ok':Nat→Prop} {w:World} {ao ao':Option Addr} {n n' cap cap':Nat} {l:List Nd} (hl:HNds ok w (.slice ao n cap) l) (hr:HNds ok' w (.slice ao' n' cap') l) :
  Calls Tryz.prog 8 #[.agg #[.slice ao n cap],.agg #[.slice ao' n' cap'],.bool true] w fun e w'=>e=.returned (.bool true)∧Below w.heap.size w w':=by
 obtain ⟨p1,p2,hv,hc1,hc2,hat⟩:=hl.at;injection hv with q1 q2 q3;have HN:=zD q2;rw [←q1] at hat;rw [←q2,←q3] at hc1;rw [←q3] at hc2;clear q1 q2 q3 hl;obtain ⟨p1',p2',hv',hd1,hd2,hat'⟩:=hr.at;injection hv' with q1 q2 q3;have HM:=zD q2;rw [←q1] at hat';rw [←q2,←q3] at hd1;rw [←q3] at hd2;clear q1 q2 q3 hr;unfold maxLen at hc2 hd2;obtain ⟨W,hW⟩:=nm ((w.alloc (.cells #[.slice ao n cap] 25 (0,0))).alloc (.cells #[.slice ao' n' cap'] 25 (0,0)));have zW:W.heap.size=w.heap.size+1+1:=(by rw [hW];simp);have bW:Below w.heap.size w W:=(by rw [hW];exact ((Below.refl _ w).alloc nR _).alloc (by simp) _);have pW:W.heap[w.heap.size]?=some (.cells #[.slice ao n cap] 25 (0,0)):=(by rw [hW];exact kA (zF w _) _);have qW:W.heap[w.heap.size+1]?=some (.cells #[.slice ao' n' cap'] 25 (0,0)):=by
  have:=zF (w.alloc (.cells #[.slice ao n cap] 25 (0,0))) (.cells #[.slice ao' n' cap'] 25 (0,0));rw [hW]
  simpa using this
 by_cases hlen:n=n'
 ·subst hlen
  have hq:((n:Int) != (n:Int))=false:=(by simp);go_enter Tryz.func8,Tryz.ntmps8;go_wp2;rw [←hW];clear hW;go_loopg [7] n (fun k v wr=>∃ i,i≤n∧k=n-i∧v=.int .i64 (i:Nat)∧Hid (∀ j (h:j<l.length) (h':j<l.length),j<i→neq l[j] l[j]=true)∧Below W.heap.size W wr)
  case atStart=>exact ⟨0,Nat.zero_le _,rfl,rfl,fun j _ _ h=>absurd h (Nat.not_lt_zero _),Below.refl _ _⟩
  case round=>
   obtain ⟨i,hi,rfl,rfl,H,hbr⟩:=hrel;obtain ⟨wo,hwo⟩:=nm (wr);subst hwo;have hbw:Below w.heap.size w wo:=bW.trans (hbr.mono (by omega));have zr:=hbr.size;have pr:=co ((aside hbr (S:=[])).keep pW (zC pW) (by simp)) 0;have qr:=co ((aside hbr (S:=[])).keep qW (zC qW) (by simp)) 0;simp at pr qr;by_cases hlt:i<n
   ·have hil:i<l.length:=by have:=HN.out;omega
    have hir:i<l.length:=(by have:=HM.out;omega);obtain ⟨b,o,x,rfl,hb,hxa,hx⟩:=hat i hil;obtain ⟨b',o',y,rfl,hb',hya,hy⟩:=hat' i hir;obtain ⟨c0,c1,c2,c3,c4,c5,c6⟩:=hxa.keep (hbw.block b hb);obtain ⟨d0,d1,d2,d3,d4,d5,d6⟩:=hya.keep (hbw.block b' hb');clear hat hat' hxa hya;have hb1:b<wo.heap.size:=Nat.lt_of_lt_of_le hb hbw.size;have hb2:b'<wo.heap.size:=Nat.lt_of_lt_of_le hb' hbw.size;have z0:w.heap.size<wo.heap.size:=(by omega);have z1:w.heap.size+1<wo.heap.size:=(by omega);go_wp2
    go_region_held3 (fun w'=>w'.cell? ⟨w.heap.size,0,none⟩=some (.slice (some ⟨b,o,none⟩) n cap)∧w'.cell? ⟨w.heap.size+1,0,none⟩=some (.slice (some ⟨b',o',none⟩) n cap')∧w'.cell? ⟨b,o+i*7,none⟩=some (.string x.name)∧w'.cell? ⟨b,o+i*7+1,none⟩=some (.int .i64 x.place)∧w'.cell? ⟨b,o+i*7+2,none⟩=some (.slice x.a2 x.n2 x.c2)∧w'.cell? ⟨b,o+i*7+3,none⟩=some (.slice x.a3 x.n3 x.c3)∧w'.cell? ⟨b,o+i*7+4,none⟩=some (.slice x.a4 x.n4 x.c4)∧w'.cell? ⟨b,o+i*7+5,none⟩=some (.slice x.a5 x.n5 x.c5)∧w'.cell? ⟨b,o+i*7+6,none⟩=some (.slice x.a6 x.n6 x.c6)∧w'.cell? ⟨b',o'+i*7,none⟩=some (.string y.name)∧w'.cell? ⟨b',o'+i*7+1,none⟩=some (.int .i64 y.place)∧w'.cell? ⟨b',o'+i*7+2,none⟩=some (.slice y.a2 y.n2 y.c2)∧w'.cell? ⟨b',o'+i*7+3,none⟩=some (.slice y.a3 y.n3 y.c3)∧w'.cell? ⟨b',o'+i*7+4,none⟩=some (.slice y.a4 y.n4 y.c4)∧w'.cell? ⟨b',o'+i*7+5,none⟩=some (.slice y.a5 y.n5 y.c5)∧w'.cell? ⟨b',o'+i*7+6,none⟩=some (.slice y.a6 y.n6 y.c6)) (go_keep) (fail)
    ·
     obtain ⟨W1,hW1⟩:=nm (((wo.alloc (.cells #[.string x.name,.int .i64 x.place,.slice x.a2 x.n2 x.c2,.slice x.a3 x.n3 x.c3,.slice x.a4 x.n4 x.c4,.slice x.a5 x.n5 x.c5,.slice x.a6 x.n6 x.c6] 39 (0,0))).alloc (.cells #[.string y.name,.int .i64 y.place,.slice y.a2 y.n2 y.c2,.slice y.a3 y.n3 y.c3,.slice y.a4 y.n4 y.c4,.slice y.a5 y.n5 y.c5,.slice y.a6 y.n6 y.c6] 39 (0,0))).drew);have KA:W1.heap[wo.heap.size]?=some (.cells #[.string x.name,.int .i64 x.place,.slice x.a2 x.n2 x.c2,.slice x.a3 x.n3 x.c3,.slice x.a4 x.n4 x.c4,.slice x.a5 x.n5 x.c5,.slice x.a6 x.n6 x.c6] 39 (0,0)):=(by rw [hW1];exact kA (zF wo (.cells #[.string x.name,.int .i64 x.place,.slice x.a2 x.n2 x.c2,.slice x.a3 x.n3 x.c3,.slice x.a4 x.n4 x.c4,.slice x.a5 x.n5 x.c5,.slice x.a6 x.n6 x.c6] 39 (0,0))) _);have KB:W1.heap[wo.heap.size+1]?=some (.cells #[.string y.name,.int .i64 y.place,.slice y.a2 y.n2 y.c2,.slice y.a3 y.n3 y.c3,.slice y.a4 y.n4 y.c4,.slice y.a5 y.n5 y.c5,.slice y.a6 y.n6 y.c6] 39 (0,0)):=by
      have:=zF (wo.alloc (.cells #[.string x.name,.int .i64 x.place,.slice x.a2 x.n2 x.c2,.slice x.a3 x.n3 x.c3,.slice x.a4 x.n4 x.c4,.slice x.a5 x.n5 x.c5,.slice x.a6 x.n6 x.c6] 39 (0,0))) (.cells #[.string y.name,.int .i64 y.place,.slice y.a2 y.n2 y.c2,.slice y.a3 y.n3 y.c3,.slice y.a4 y.n4 y.c4,.slice y.a5 y.n5 y.c5,.slice y.a6 y.n6 y.c6] 39 (0,0));have e:(wo.alloc (.cells #[.string x.name,.int .i64 x.place,.slice x.a2 x.n2 x.c2,.slice x.a3 x.n3 x.c3,.slice x.a4 x.n4 x.c4,.slice x.a5 x.n5 x.c5,.slice x.a6 x.n6 x.c6] 39 (0,0))).heap.size=wo.heap.size+1:=(by simp);rw [e] at this;rw [hW1];exact this
     have b1:Below wo.heap.size wo W1:=(by rw [hW1];exact (((Below.refl _ wo).alloc nR _).alloc (by simp) _).drew);have U0:Below w.heap.size w W1:=hbw.trans (b1.mono hbw.size);have U:∀ q,Below w.heap.size w (W1.drewN q):=fun q=>⟨U0.os,U0.tape,U0.output,U0.size,U0.block⟩;rw [←hW1];clear hW1;have KX:=KA;have KY:=KB;have NM:Hid (seq l[i].name l[i].name=(x.name.toList==y.name.toList)):=(by show _=_;rw [hx.name,hy.name];rfl);clear KA KB;have xx0:=co KX 0;have xx1:=co KX 1;have yy1:=co KY 1;have yy0:=co KY 0;have xx2:=co KX 2;have yy2:=co KY 2;have xx3:=co KX 3;have yy3:=co KY 3;have xx4:=co KX 4;have yy4:=co KY 4;have xx5:=co KX 5;have yy5:=co KY 5;have xx6:=co KX 6;have yy6:=co KY 6;simp at xx0 yy0 xx1 yy1 xx2 yy2 xx3 yy3 xx4 yy4 xx5 yy5 xx6 yy6;have hpf:(x.place != y.place)=false:=(by rw [hx.place,hy.place];simp);have h0:(x.name.toList==y.name.toList)=true:=(by rw [hx.name,hy.name];simp)
     ·go_wp2_with fail
      refine (vG (hx.sizes.under U0) (hy.sizes.under U0)).mono ?_;rintro e w2 ⟨rfl,m1,rfl⟩;have h1:eqL seq l[i].sizes l[i].sizes=true:=xJ _ (fun x _=>jN x);rw [h1]
      ·go_wp2_with fail
       refine (vF (hx.inn.under (U _)) (hy.inn.under (U _))).mono ?_;rintro e w2 ⟨rfl,m2,rfl⟩;have h2:eqL deq l[i].inn l[i].inn=true:=xJ _ (fun x _=>zAh x);rw [h2]
       ·go_wp2_with fail
        refine (vF (hx.out.under (U _)) (hy.out.under (U _))).mono ?_;rintro e w2 ⟨rfl,m3,rfl⟩;have h3:eqL deq l[i].out l[i].out=true:=xJ _ (fun x _=>zAh x);rw [h3]
        ·go_wp2_with fail
         refine (vF (hx.loc.under (U _)) (hy.loc.under (U _))).mono ?_;rintro e w2 ⟨rfl,m4,rfl⟩;have h4:eqL deq l[i].loc l[i].loc=true:=xJ _ (fun x _=>zAh x);rw [h4]
         ·
          obtain ⟨qa,qc,qv,qe1,qe2,qat⟩:=hx.eqs.at;obtain ⟨ra,rc,rv,re1,re2,rat⟩:=hy.eqs.at;injection qv with u1 u2 u3;injection rv with v1 v2 v3;rw [←u1] at qat;rw [←v1] at rat;have HU:=zD u2;have HV:=zD v2;rw [←u2,←u3] at qe1;rw [←u3] at qe2;rw [←v2,←v3] at re1;rw [←v3] at re2;unfold maxLen at qe2 re2;clear u1 u2 u3 v1 v2 v3;by_cases h5:x.n6=y.n6
          ·have h5f:((x.n6:Int) != (y.n6:Int))=false:=by simp [h5]
           have H5:=zD h5;clear h5;have zk1:=zC KX;have zk2:=zC KY;go_wp2;go_loopg [10] x.n6 (fun k v wk=>∃ j,j≤x.n6∧k=x.n6-j∧v=.int .i64 (j:Nat)∧Hid (∀ t (h:t<l[i].eqs.length) (h':t<l[i].eqs.length),t<j→qeq l[i].eqs[t] l[i].eqs[t]=true)∧Below W1.heap.size W1 wk)
           case atStart=>exact ⟨0,Nat.zero_le _,rfl,rfl,fun t _ _ h=>absurd h (Nat.not_lt_zero _),⟨rfl,rfl,rfl,Nat.le_refl _,fun _ _=>rfl⟩⟩
           case round=>
            obtain ⟨j,hj,rfl,rfl,G,hbk⟩:=hrel;have pk:=(hbk.cell (p:=⟨wo.heap.size,6,none⟩) zk1).trans xx6;have qk:=(hbk.cell (p:=⟨wo.heap.size+1,6,none⟩) zk2).trans yy6;have zk:=hbk.size;clear xx1 yy1 xx0 xx2 xx3 xx4 xx5 xx6 yy0 yy2 yy3 yy4 yy5 yy6 c0 c1 c2 c3 c4 c5 c6 d0 d1 d2 d3 d4 d5 d6 pr qr;by_cases hjt:j<x.n6
            ·have hjl:j<l[i].eqs.length:=by have:=HU.out;omega
             have hjr:j<l[i].eqs.length:=(by have:=HV.out;have:=H5.out;omega);have hjt2:j<y.n6:=(by have:=H5.out;omega);obtain ⟨bp,op,p,xe,hbp,hpa,hp⟩:=qat j hjl;obtain ⟨bq,oq,q,ye,hbq,hqa,hq'⟩:=rat j hjr;have Bk:Below w.heap.size w wr:=U0.trans (hbk.mono U0.size);rw [xe] at pk;rw [ye] at qk;obtain ⟨s0,s1,s2,s3,s4⟩:=hpa.keep (Bk.block bp hbp);obtain ⟨t0,t1,t2,t3,t4⟩:=hqa.keep (Bk.block bq hbq);have hz1:bp<wr.heap.size:=Nat.lt_of_lt_of_le hbp Bk.size;have hz2:bq<wr.heap.size:=Nat.lt_of_lt_of_le hbq Bk.size;have hz3:wo.heap.size<wr.heap.size:=Nat.lt_of_lt_of_le zk1 zk;have hz4:wo.heap.size+1<wr.heap.size:=Nat.lt_of_lt_of_le zk2 zk;clear xe ye hpa hqa qat rat;go_wp2
             go_region_held3 (fun w'=>w'.cell? ⟨wo.heap.size,6,none⟩=some (.slice (some ⟨bp,op,none⟩) x.n6 x.c6)∧w'.cell? ⟨wo.heap.size+1,6,none⟩=some (.slice (some ⟨bq,oq,none⟩) y.n6 y.c6)∧w'.cell? ⟨bp,op+j*5,none⟩=some (.int .i64 p.place)∧w'.cell? ⟨bp,op+j*5+1,none⟩=some (.slice p.aN p.nN p.cN)∧w'.cell? ⟨bp,op+j*5+2,none⟩=some (.string p.node)∧w'.cell? ⟨bp,op+j*5+3,none⟩=some (.slice p.aS p.nS p.cS)∧w'.cell? ⟨bp,op+j*5+4,none⟩=some (.slice p.aE p.nE p.cE)∧w'.cell? ⟨bq,oq+j*5,none⟩=some (.int .i64 q.place)∧w'.cell? ⟨bq,oq+j*5+1,none⟩=some (.slice q.aN q.nN q.cN)∧w'.cell? ⟨bq,oq+j*5+2,none⟩=some (.string q.node)∧w'.cell? ⟨bq,oq+j*5+3,none⟩=some (.slice q.aS q.nS q.cS)∧w'.cell? ⟨bq,oq+j*5+4,none⟩=some (.slice q.aE q.nE q.cE)) (go_keep) (fail)
             ·obtain ⟨V1,hV1⟩:=nm (((wr.alloc (.cells #[.int .i64 p.place,.slice p.aN p.nN p.cN,.string p.node,.slice p.aS p.nS p.cS,.slice p.aE p.nE p.cE] 43 (0,0))).alloc (.cells #[.int .i64 q.place,.slice q.aN q.nN q.cN,.string q.node,.slice q.aS q.nS q.cS,.slice q.aE q.nE q.cE] 43 (0,0))).drew)
              have KA:V1.heap[wr.heap.size]?=some (.cells #[.int .i64 p.place,.slice p.aN p.nN p.cN,.string p.node,.slice p.aS p.nS p.cS,.slice p.aE p.nE p.cE] 43 (0,0)):=(by rw [hV1];exact kA (zF wr (.cells #[.int .i64 p.place,.slice p.aN p.nN p.cN,.string p.node,.slice p.aS p.nS p.cS,.slice p.aE p.nE p.cE] 43 (0,0))) _);have KB:V1.heap[wr.heap.size+1]?=some (.cells #[.int .i64 q.place,.slice q.aN q.nN q.cN,.string q.node,.slice q.aS q.nS q.cS,.slice q.aE q.nE q.cE] 43 (0,0)):=by
               have:=zF (wr.alloc (.cells #[.int .i64 p.place,.slice p.aN p.nN p.cN,.string p.node,.slice p.aS p.nS p.cS,.slice p.aE p.nE p.cE] 43 (0,0))) (.cells #[.int .i64 q.place,.slice q.aN q.nN q.cN,.string q.node,.slice q.aS q.nS q.cS,.slice q.aE q.nE q.cE] 43 (0,0));have e:(wr.alloc (.cells #[.int .i64 p.place,.slice p.aN p.nN p.cN,.string p.node,.slice p.aS p.nS p.cS,.slice p.aE p.nE p.cE] 43 (0,0))).heap.size=wr.heap.size+1:=(by simp);rw [e] at this;rw [hV1];exact this
              have c1:Below wr.heap.size wr V1:=(by rw [hV1];exact (((Below.refl _ wr).alloc nR _).alloc (by simp) _).drew);have T1:Below W1.heap.size W1 V1:=hbk.trans (c1.mono hbk.size);have T0:Below w.heap.size w V1:=U0.trans (T1.mono U0.size);have T:∀ q,Below w.heap.size w (V1.drewN q):=fun q=>⟨T0.os,T0.tape,T0.output,T0.size,T0.block⟩;rw [←hV1];clear hV1;have ND:Hid (seq l[i].eqs[j].node l[i].eqs[j].node=(p.node.toList==q.node.toList)):=(by show _=_;rw [hp.node,hq'.node];rfl);have KP:=KA;have KQ:=KB;clear KA KB c1;have pp0:=co KP 0;have qq0:=co KQ 0;have pp1:=co KP 1;have qq1:=co KQ 1;have pp2:=co KP 2;have qq2:=co KQ 2;have pp3:=co KP 3;have qq3:=co KQ 3;have pp4:=co KP 4;have qq4:=co KQ 4;simp at pp0 qq0 pp1 pp2 pp3 pp4 qq1 qq2 qq3 qq4;have gpf:(p.place != q.place)=false:=(by rw [hp.place,hq'.place];simp);have g0:(p.node.toList==q.node.toList)=true:=(by rw [hp.node,hq'.node];simp)
              ·go_wp2_with fail
               refine (vG (hp.names.under T0) (hq'.names.under T0)).mono ?_;rintro e w2 ⟨rfl,d1,rfl⟩;have g1:eqL seq l[i].eqs[j].names l[i].eqs[j].names=true:=xJ _ (fun x _=>jN x);rw [g1]
               ·go_wp2_with fail
                refine (jD (hp.S.under (T _)) (hq'.S.under (T _))).mono ?_;rintro e w2 ⟨rfl,d2,rfl⟩;have g2:eqL (eqL teq) l[i].eqs[j].S l[i].eqs[j].S=true:=zAX _;rw [g2]
                ·go_wp2_with fail
                 refine (jS (hp.E.under (T _)) (hq'.E.under (T _))).mono ?_;rintro e w2 ⟨rfl,d3,rfl⟩;have g3:eqL xeq l[i].eqs[j].E l[i].eqs[j].E=true:=xJ _ (fun x _=>zBB x);rw [g3]
                 ·as_aux_lemma=>
                   go_wp2;go_roundg (x.n6-(j+1))
                   case measure=>omega
                   case rel=>
                    refine ⟨j+1,by omega,rfl,by go_num,fun t ht ht' htj=>?_,⟨T1.os,T1.tape,T1.output,T1.size,T1.block⟩⟩;by_cases e:t=j
                    ·subst e
                     simp [qeq,ND.out,g0,g1,g2,g3]
                    ·exact G.out t ht ht' (by omega)
             ·obtain ⟨V1,hV1⟩:=nm (((wr.alloc (.cells #[.int .i64 q.place,.slice q.aN q.nN q.cN,.string q.node,.slice q.aS q.nS q.cS,.slice q.aE q.nE q.cE] 43 (0,0))).alloc (.cells #[.int .i64 p.place,.slice p.aN p.nN p.cN,.string p.node,.slice p.aS p.nS p.cS,.slice p.aE p.nE p.cE] 43 (0,0))).drew)
              have KA:V1.heap[wr.heap.size]?=some (.cells #[.int .i64 q.place,.slice q.aN q.nN q.cN,.string q.node,.slice q.aS q.nS q.cS,.slice q.aE q.nE q.cE] 43 (0,0)):=(by rw [hV1];exact kA (zF wr (.cells #[.int .i64 q.place,.slice q.aN q.nN q.cN,.string q.node,.slice q.aS q.nS q.cS,.slice q.aE q.nE q.cE] 43 (0,0))) _);have KB:V1.heap[wr.heap.size+1]?=some (.cells #[.int .i64 p.place,.slice p.aN p.nN p.cN,.string p.node,.slice p.aS p.nS p.cS,.slice p.aE p.nE p.cE] 43 (0,0)):=by
               have:=zF (wr.alloc (.cells #[.int .i64 q.place,.slice q.aN q.nN q.cN,.string q.node,.slice q.aS q.nS q.cS,.slice q.aE q.nE q.cE] 43 (0,0))) (.cells #[.int .i64 p.place,.slice p.aN p.nN p.cN,.string p.node,.slice p.aS p.nS p.cS,.slice p.aE p.nE p.cE] 43 (0,0));have e:(wr.alloc (.cells #[.int .i64 q.place,.slice q.aN q.nN q.cN,.string q.node,.slice q.aS q.nS q.cS,.slice q.aE q.nE q.cE] 43 (0,0))).heap.size=wr.heap.size+1:=(by simp);rw [e] at this;rw [hV1];exact this
              have c1:Below wr.heap.size wr V1:=(by rw [hV1];exact (((Below.refl _ wr).alloc nR _).alloc (by simp) _).drew);have T1:Below W1.heap.size W1 V1:=hbk.trans (c1.mono hbk.size);have T0:Below w.heap.size w V1:=U0.trans (T1.mono U0.size);have T:∀ q,Below w.heap.size w (V1.drewN q):=fun q=>⟨T0.os,T0.tape,T0.output,T0.size,T0.block⟩;rw [←hV1];clear hV1;have ND:Hid (seq l[i].eqs[j].node l[i].eqs[j].node=(p.node.toList==q.node.toList)):=(by show _=_;rw [hp.node,hq'.node];rfl);have KP:=KB;have KQ:=KA;clear KA KB c1;have pp0:=co KP 0;have qq0:=co KQ 0;have pp1:=co KP 1;have qq1:=co KQ 1;have pp2:=co KP 2;have qq2:=co KQ 2;have pp3:=co KP 3;have qq3:=co KQ 3;have pp4:=co KP 4;have qq4:=co KQ 4;simp at pp0 qq0 pp1 pp2 pp3 pp4 qq1 qq2 qq3 qq4;have gpf:(p.place != q.place)=false:=(by rw [hp.place,hq'.place];simp);have g0:(p.node.toList==q.node.toList)=true:=(by rw [hp.node,hq'.node];simp)
              ·go_wp2_with fail
               refine (vG (hp.names.under T0) (hq'.names.under T0)).mono ?_;rintro e w2 ⟨rfl,d1,rfl⟩;have g1:eqL seq l[i].eqs[j].names l[i].eqs[j].names=true:=xJ _ (fun x _=>jN x);rw [g1]
               ·go_wp2_with fail
                refine (jD (hp.S.under (T _)) (hq'.S.under (T _))).mono ?_;rintro e w2 ⟨rfl,d2,rfl⟩;have g2:eqL (eqL teq) l[i].eqs[j].S l[i].eqs[j].S=true:=zAX _;rw [g2]
                ·go_wp2_with fail
                 refine (jS (hp.E.under (T _)) (hq'.E.under (T _))).mono ?_;rintro e w2 ⟨rfl,d3,rfl⟩;have g3:eqL xeq l[i].eqs[j].E l[i].eqs[j].E=true:=xJ _ (fun x _=>zBB x);rw [g3]
                 ·as_aux_lemma=>
                   go_wp2;go_roundg (x.n6-(j+1))
                   case measure=>omega
                   case rel=>
                    refine ⟨j+1,by omega,rfl,by go_num,fun t ht ht' htj=>?_,⟨T1.os,T1.tape,T1.output,T1.size,T1.block⟩⟩;by_cases e:t=j
                    ·subst e
                     simp [qeq,ND.out,g0,g1,g2,g3]
                    ·exact G.out t ht ht' (by omega)
            ·have hje:j=x.n6:=by omega
             subst hje;have h6:eqL qeq l[i].eqs l[i].eqs=true:=jI rfl (fun t ht ht'=>G.out t ht ht' (by rw [HU.out];exact ht));have hNE:Hid (neq l[i] l[i]=true):=(by show _=_;simp [neq,NM.out,h0,h1,h2,h3,h4,h6]);clear qat rat h6
             as_aux_lemma=>
              go_wp2;go_roundg (n-(i+1))
              case measure=>omega
              case rel=>
               refine ⟨i+1,by omega,rfl,by go_num,fun t ht ht' hti=>?_,hbr.trans ((b1.trans (hbk.mono b1.size)).mono hbr.size)⟩;by_cases e:t=i
               ·subst e
                exact hNE.out
               ·exact H.out t ht ht' (by omega)
          ·exact absurd (by rw [HU.out,HV.out]) h5
    ·
     obtain ⟨W1,hW1⟩:=nm (((wo.alloc (.cells #[.string y.name,.int .i64 y.place,.slice y.a2 y.n2 y.c2,.slice y.a3 y.n3 y.c3,.slice y.a4 y.n4 y.c4,.slice y.a5 y.n5 y.c5,.slice y.a6 y.n6 y.c6] 39 (0,0))).alloc (.cells #[.string x.name,.int .i64 x.place,.slice x.a2 x.n2 x.c2,.slice x.a3 x.n3 x.c3,.slice x.a4 x.n4 x.c4,.slice x.a5 x.n5 x.c5,.slice x.a6 x.n6 x.c6] 39 (0,0))).drew);have KA:W1.heap[wo.heap.size]?=some (.cells #[.string y.name,.int .i64 y.place,.slice y.a2 y.n2 y.c2,.slice y.a3 y.n3 y.c3,.slice y.a4 y.n4 y.c4,.slice y.a5 y.n5 y.c5,.slice y.a6 y.n6 y.c6] 39 (0,0)):=(by rw [hW1];exact kA (zF wo (.cells #[.string y.name,.int .i64 y.place,.slice y.a2 y.n2 y.c2,.slice y.a3 y.n3 y.c3,.slice y.a4 y.n4 y.c4,.slice y.a5 y.n5 y.c5,.slice y.a6 y.n6 y.c6] 39 (0,0))) _);have KB:W1.heap[wo.heap.size+1]?=some (.cells #[.string x.name,.int .i64 x.place,.slice x.a2 x.n2 x.c2,.slice x.a3 x.n3 x.c3,.slice x.a4 x.n4 x.c4,.slice x.a5 x.n5 x.c5,.slice x.a6 x.n6 x.c6] 39 (0,0)):=by
      have:=zF (wo.alloc (.cells #[.string y.name,.int .i64 y.place,.slice y.a2 y.n2 y.c2,.slice y.a3 y.n3 y.c3,.slice y.a4 y.n4 y.c4,.slice y.a5 y.n5 y.c5,.slice y.a6 y.n6 y.c6] 39 (0,0))) (.cells #[.string x.name,.int .i64 x.place,.slice x.a2 x.n2 x.c2,.slice x.a3 x.n3 x.c3,.slice x.a4 x.n4 x.c4,.slice x.a5 x.n5 x.c5,.slice x.a6 x.n6 x.c6] 39 (0,0));have e:(wo.alloc (.cells #[.string y.name,.int .i64 y.place,.slice y.a2 y.n2 y.c2,.slice y.a3 y.n3 y.c3,.slice y.a4 y.n4 y.c4,.slice y.a5 y.n5 y.c5,.slice y.a6 y.n6 y.c6] 39 (0,0))).heap.size=wo.heap.size+1:=(by simp);rw [e] at this;rw [hW1];exact this
     have b1:Below wo.heap.size wo W1:=(by rw [hW1];exact (((Below.refl _ wo).alloc nR _).alloc (by simp) _).drew);have U0:Below w.heap.size w W1:=hbw.trans (b1.mono hbw.size);have U:∀ q,Below w.heap.size w (W1.drewN q):=fun q=>⟨U0.os,U0.tape,U0.output,U0.size,U0.block⟩;rw [←hW1];clear hW1;have KX:=KB;have KY:=KA;have NM:Hid (seq l[i].name l[i].name=(x.name.toList==y.name.toList)):=(by show _=_;rw [hx.name,hy.name];rfl);clear KA KB;have xx0:=co KX 0;have xx1:=co KX 1;have yy1:=co KY 1;have yy0:=co KY 0;have xx2:=co KX 2;have yy2:=co KY 2;have xx3:=co KX 3;have yy3:=co KY 3;have xx4:=co KX 4;have yy4:=co KY 4;have xx5:=co KX 5;have yy5:=co KY 5;have xx6:=co KX 6;have yy6:=co KY 6;simp at xx0 yy0 xx1 yy1 xx2 yy2 xx3 yy3 xx4 yy4 xx5 yy5 xx6 yy6;have hpf:(x.place != y.place)=false:=(by rw [hx.place,hy.place];simp);have h0:(x.name.toList==y.name.toList)=true:=(by rw [hx.name,hy.name];simp)
     ·go_wp2_with fail
      refine (vG (hx.sizes.under U0) (hy.sizes.under U0)).mono ?_;rintro e w2 ⟨rfl,m1,rfl⟩;have h1:eqL seq l[i].sizes l[i].sizes=true:=xJ _ (fun x _=>jN x);rw [h1]
      ·go_wp2_with fail
       refine (vF (hx.inn.under (U _)) (hy.inn.under (U _))).mono ?_;rintro e w2 ⟨rfl,m2,rfl⟩;have h2:eqL deq l[i].inn l[i].inn=true:=xJ _ (fun x _=>zAh x);rw [h2]
       ·go_wp2_with fail
        refine (vF (hx.out.under (U _)) (hy.out.under (U _))).mono ?_;rintro e w2 ⟨rfl,m3,rfl⟩;have h3:eqL deq l[i].out l[i].out=true:=xJ _ (fun x _=>zAh x);rw [h3]
        ·go_wp2_with fail
         refine (vF (hx.loc.under (U _)) (hy.loc.under (U _))).mono ?_;rintro e w2 ⟨rfl,m4,rfl⟩;have h4:eqL deq l[i].loc l[i].loc=true:=xJ _ (fun x _=>zAh x);rw [h4]
         ·
          obtain ⟨qa,qc,qv,qe1,qe2,qat⟩:=hx.eqs.at;obtain ⟨ra,rc,rv,re1,re2,rat⟩:=hy.eqs.at;injection qv with u1 u2 u3;injection rv with v1 v2 v3;rw [←u1] at qat;rw [←v1] at rat;have HU:=zD u2;have HV:=zD v2;rw [←u2,←u3] at qe1;rw [←u3] at qe2;rw [←v2,←v3] at re1;rw [←v3] at re2;unfold maxLen at qe2 re2;clear u1 u2 u3 v1 v2 v3;by_cases h5:x.n6=y.n6
          ·have h5f:((x.n6:Int) != (y.n6:Int))=false:=by simp [h5]
           have H5:=zD h5;clear h5;have zk1:=zC KX;have zk2:=zC KY;go_wp2;go_loopg [10] x.n6 (fun k v wk=>∃ j,j≤x.n6∧k=x.n6-j∧v=.int .i64 (j:Nat)∧Hid (∀ t (h:t<l[i].eqs.length) (h':t<l[i].eqs.length),t<j→qeq l[i].eqs[t] l[i].eqs[t]=true)∧Below W1.heap.size W1 wk)
           case atStart=>exact ⟨0,Nat.zero_le _,rfl,rfl,fun t _ _ h=>absurd h (Nat.not_lt_zero _),⟨rfl,rfl,rfl,Nat.le_refl _,fun _ _=>rfl⟩⟩
           case round=>
            obtain ⟨j,hj,rfl,rfl,G,hbk⟩:=hrel;have pk:=(hbk.cell (p:=⟨wo.heap.size+1,6,none⟩) zk1).trans xx6;have qk:=(hbk.cell (p:=⟨wo.heap.size,6,none⟩) zk2).trans yy6;have zk:=hbk.size;clear xx1 yy1 xx0 xx2 xx3 xx4 xx5 xx6 yy0 yy2 yy3 yy4 yy5 yy6 c0 c1 c2 c3 c4 c5 c6 d0 d1 d2 d3 d4 d5 d6 pr qr;by_cases hjt:j<x.n6
            ·have hjl:j<l[i].eqs.length:=by have:=HU.out;omega
             have hjr:j<l[i].eqs.length:=(by have:=HV.out;have:=H5.out;omega);have hjt2:j<y.n6:=(by have:=H5.out;omega);obtain ⟨bp,op,p,xe,hbp,hpa,hp⟩:=qat j hjl;obtain ⟨bq,oq,q,ye,hbq,hqa,hq'⟩:=rat j hjr;have Bk:Below w.heap.size w wr:=U0.trans (hbk.mono U0.size);rw [xe] at pk;rw [ye] at qk;obtain ⟨s0,s1,s2,s3,s4⟩:=hpa.keep (Bk.block bp hbp);obtain ⟨t0,t1,t2,t3,t4⟩:=hqa.keep (Bk.block bq hbq);have hz1:bp<wr.heap.size:=Nat.lt_of_lt_of_le hbp Bk.size;have hz2:bq<wr.heap.size:=Nat.lt_of_lt_of_le hbq Bk.size;have hz3:wo.heap.size+1<wr.heap.size:=Nat.lt_of_lt_of_le zk1 zk;have hz4:wo.heap.size<wr.heap.size:=Nat.lt_of_lt_of_le zk2 zk;clear xe ye hpa hqa qat rat;go_wp2
             go_region_held3 (fun w'=>w'.cell? ⟨wo.heap.size+1,6,none⟩=some (.slice (some ⟨bp,op,none⟩) x.n6 x.c6)∧w'.cell? ⟨wo.heap.size,6,none⟩=some (.slice (some ⟨bq,oq,none⟩) y.n6 y.c6)∧w'.cell? ⟨bp,op+j*5,none⟩=some (.int .i64 p.place)∧w'.cell? ⟨bp,op+j*5+1,none⟩=some (.slice p.aN p.nN p.cN)∧w'.cell? ⟨bp,op+j*5+2,none⟩=some (.string p.node)∧w'.cell? ⟨bp,op+j*5+3,none⟩=some (.slice p.aS p.nS p.cS)∧w'.cell? ⟨bp,op+j*5+4,none⟩=some (.slice p.aE p.nE p.cE)∧w'.cell? ⟨bq,oq+j*5,none⟩=some (.int .i64 q.place)∧w'.cell? ⟨bq,oq+j*5+1,none⟩=some (.slice q.aN q.nN q.cN)∧w'.cell? ⟨bq,oq+j*5+2,none⟩=some (.string q.node)∧w'.cell? ⟨bq,oq+j*5+3,none⟩=some (.slice q.aS q.nS q.cS)∧w'.cell? ⟨bq,oq+j*5+4,none⟩=some (.slice q.aE q.nE q.cE)) (go_keep) (fail)
             ·obtain ⟨V1,hV1⟩:=nm (((wr.alloc (.cells #[.int .i64 p.place,.slice p.aN p.nN p.cN,.string p.node,.slice p.aS p.nS p.cS,.slice p.aE p.nE p.cE] 43 (0,0))).alloc (.cells #[.int .i64 q.place,.slice q.aN q.nN q.cN,.string q.node,.slice q.aS q.nS q.cS,.slice q.aE q.nE q.cE] 43 (0,0))).drew)
              have KA:V1.heap[wr.heap.size]?=some (.cells #[.int .i64 p.place,.slice p.aN p.nN p.cN,.string p.node,.slice p.aS p.nS p.cS,.slice p.aE p.nE p.cE] 43 (0,0)):=(by rw [hV1];exact kA (zF wr (.cells #[.int .i64 p.place,.slice p.aN p.nN p.cN,.string p.node,.slice p.aS p.nS p.cS,.slice p.aE p.nE p.cE] 43 (0,0))) _);have KB:V1.heap[wr.heap.size+1]?=some (.cells #[.int .i64 q.place,.slice q.aN q.nN q.cN,.string q.node,.slice q.aS q.nS q.cS,.slice q.aE q.nE q.cE] 43 (0,0)):=by
               have:=zF (wr.alloc (.cells #[.int .i64 p.place,.slice p.aN p.nN p.cN,.string p.node,.slice p.aS p.nS p.cS,.slice p.aE p.nE p.cE] 43 (0,0))) (.cells #[.int .i64 q.place,.slice q.aN q.nN q.cN,.string q.node,.slice q.aS q.nS q.cS,.slice q.aE q.nE q.cE] 43 (0,0));have e:(wr.alloc (.cells #[.int .i64 p.place,.slice p.aN p.nN p.cN,.string p.node,.slice p.aS p.nS p.cS,.slice p.aE p.nE p.cE] 43 (0,0))).heap.size=wr.heap.size+1:=(by simp);rw [e] at this;rw [hV1];exact this
              have c1:Below wr.heap.size wr V1:=(by rw [hV1];exact (((Below.refl _ wr).alloc nR _).alloc (by simp) _).drew);have T1:Below W1.heap.size W1 V1:=hbk.trans (c1.mono hbk.size);have T0:Below w.heap.size w V1:=U0.trans (T1.mono U0.size);have T:∀ q,Below w.heap.size w (V1.drewN q):=fun q=>⟨T0.os,T0.tape,T0.output,T0.size,T0.block⟩;rw [←hV1];clear hV1;have ND:Hid (seq l[i].eqs[j].node l[i].eqs[j].node=(p.node.toList==q.node.toList)):=(by show _=_;rw [hp.node,hq'.node];rfl);have KP:=KA;have KQ:=KB;clear KA KB c1;have pp0:=co KP 0;have qq0:=co KQ 0;have pp1:=co KP 1;have qq1:=co KQ 1;have pp2:=co KP 2;have qq2:=co KQ 2;have pp3:=co KP 3;have qq3:=co KQ 3;have pp4:=co KP 4;have qq4:=co KQ 4;simp at pp0 qq0 pp1 pp2 pp3 pp4 qq1 qq2 qq3 qq4;have gpf:(p.place != q.place)=false:=(by rw [hp.place,hq'.place];simp);have g0:(p.node.toList==q.node.toList)=true:=(by rw [hp.node,hq'.node];simp)
              ·go_wp2_with fail
               refine (vG (hp.names.under T0) (hq'.names.under T0)).mono ?_;rintro e w2 ⟨rfl,d1,rfl⟩;have g1:eqL seq l[i].eqs[j].names l[i].eqs[j].names=true:=xJ _ (fun x _=>jN x);rw [g1]
               ·go_wp2_with fail
                refine (jD (hp.S.under (T _)) (hq'.S.under (T _))).mono ?_;rintro e w2 ⟨rfl,d2,rfl⟩;have g2:eqL (eqL teq) l[i].eqs[j].S l[i].eqs[j].S=true:=zAX _;rw [g2]
                ·go_wp2_with fail
                 refine (jS (hp.E.under (T _)) (hq'.E.under (T _))).mono ?_;rintro e w2 ⟨rfl,d3,rfl⟩;have g3:eqL xeq l[i].eqs[j].E l[i].eqs[j].E=true:=xJ _ (fun x _=>zBB x);rw [g3]
                 ·as_aux_lemma=>
                   go_wp2;go_roundg (x.n6-(j+1))
                   case measure=>omega
                   case rel=>
                    refine ⟨j+1,by omega,rfl,by go_num,fun t ht ht' htj=>?_,⟨T1.os,T1.tape,T1.output,T1.size,T1.block⟩⟩;by_cases e:t=j
                    ·subst e
                     simp [qeq,ND.out,g0,g1,g2,g3]
                    ·exact G.out t ht ht' (by omega)
             ·obtain ⟨V1,hV1⟩:=nm (((wr.alloc (.cells #[.int .i64 q.place,.slice q.aN q.nN q.cN,.string q.node,.slice q.aS q.nS q.cS,.slice q.aE q.nE q.cE] 43 (0,0))).alloc (.cells #[.int .i64 p.place,.slice p.aN p.nN p.cN,.string p.node,.slice p.aS p.nS p.cS,.slice p.aE p.nE p.cE] 43 (0,0))).drew)
              have KA:V1.heap[wr.heap.size]?=some (.cells #[.int .i64 q.place,.slice q.aN q.nN q.cN,.string q.node,.slice q.aS q.nS q.cS,.slice q.aE q.nE q.cE] 43 (0,0)):=(by rw [hV1];exact kA (zF wr (.cells #[.int .i64 q.place,.slice q.aN q.nN q.cN,.string q.node,.slice q.aS q.nS q.cS,.slice q.aE q.nE q.cE] 43 (0,0))) _);have KB:V1.heap[wr.heap.size+1]?=some (.cells #[.int .i64 p.place,.slice p.aN p.nN p.cN,.string p.node,.slice p.aS p.nS p.cS,.slice p.aE p.nE p.cE] 43 (0,0)):=by
               have:=zF (wr.alloc (.cells #[.int .i64 q.place,.slice q.aN q.nN q.cN,.string q.node,.slice q.aS q.nS q.cS,.slice q.aE q.nE q.cE] 43 (0,0))) (.cells #[.int .i64 p.place,.slice p.aN p.nN p.cN,.string p.node,.slice p.aS p.nS p.cS,.slice p.aE p.nE p.cE] 43 (0,0));have e:(wr.alloc (.cells #[.int .i64 q.place,.slice q.aN q.nN q.cN,.string q.node,.slice q.aS q.nS q.cS,.slice q.aE q.nE q.cE] 43 (0,0))).heap.size=wr.heap.size+1:=(by simp);rw [e] at this;rw [hV1];exact this
              have c1:Below wr.heap.size wr V1:=(by rw [hV1];exact (((Below.refl _ wr).alloc nR _).alloc (by simp) _).drew);have T1:Below W1.heap.size W1 V1:=hbk.trans (c1.mono hbk.size);have T0:Below w.heap.size w V1:=U0.trans (T1.mono U0.size);have T:∀ q,Below w.heap.size w (V1.drewN q):=fun q=>⟨T0.os,T0.tape,T0.output,T0.size,T0.block⟩;rw [←hV1];clear hV1;have ND:Hid (seq l[i].eqs[j].node l[i].eqs[j].node=(p.node.toList==q.node.toList)):=(by show _=_;rw [hp.node,hq'.node];rfl);have KP:=KB;have KQ:=KA;clear KA KB c1;have pp0:=co KP 0;have qq0:=co KQ 0;have pp1:=co KP 1;have qq1:=co KQ 1;have pp2:=co KP 2;have qq2:=co KQ 2;have pp3:=co KP 3;have qq3:=co KQ 3;have pp4:=co KP 4;have qq4:=co KQ 4;simp at pp0 qq0 pp1 pp2 pp3 pp4 qq1 qq2 qq3 qq4;have gpf:(p.place != q.place)=false:=(by rw [hp.place,hq'.place];simp);have g0:(p.node.toList==q.node.toList)=true:=(by rw [hp.node,hq'.node];simp)
              ·go_wp2_with fail
               refine (vG (hp.names.under T0) (hq'.names.under T0)).mono ?_;rintro e w2 ⟨rfl,d1,rfl⟩;have g1:eqL seq l[i].eqs[j].names l[i].eqs[j].names=true:=xJ _ (fun x _=>jN x);rw [g1]
               ·go_wp2_with fail
                refine (jD (hp.S.under (T _)) (hq'.S.under (T _))).mono ?_;rintro e w2 ⟨rfl,d2,rfl⟩;have g2:eqL (eqL teq) l[i].eqs[j].S l[i].eqs[j].S=true:=zAX _;rw [g2]
                ·go_wp2_with fail
                 refine (jS (hp.E.under (T _)) (hq'.E.under (T _))).mono ?_;rintro e w2 ⟨rfl,d3,rfl⟩;have g3:eqL xeq l[i].eqs[j].E l[i].eqs[j].E=true:=xJ _ (fun x _=>zBB x);rw [g3]
                 ·as_aux_lemma=>
                   go_wp2;go_roundg (x.n6-(j+1))
                   case measure=>omega
                   case rel=>
                    refine ⟨j+1,by omega,rfl,by go_num,fun t ht ht' htj=>?_,⟨T1.os,T1.tape,T1.output,T1.size,T1.block⟩⟩;by_cases e:t=j
                    ·subst e
                     simp [qeq,ND.out,g0,g1,g2,g3]
                    ·exact G.out t ht ht' (by omega)
            ·have hje:j=x.n6:=by omega
             subst hje;have h6:eqL qeq l[i].eqs l[i].eqs=true:=jI rfl (fun t ht ht'=>G.out t ht ht' (by rw [HU.out];exact ht));have hNE:Hid (neq l[i] l[i]=true):=(by show _=_;simp [neq,NM.out,h0,h1,h2,h3,h4,h6]);clear qat rat h6
             as_aux_lemma=>
              go_wp2;go_roundg (n-(i+1))
              case measure=>omega
              case rel=>
               refine ⟨i+1,by omega,rfl,by go_num,fun t ht ht' hti=>?_,hbr.trans ((b1.trans (hbk.mono b1.size)).mono hbr.size)⟩;by_cases e:t=i
               ·subst e
                exact hNE.out
               ·exact H.out t ht ht' (by omega)
          ·exact absurd (by rw [HU.out,HV.out]) h5
   ·have hie:i=n:=by omega
    subst hie;clear hat hat';go_wp2;go_ret;exact ⟨rfl,hbw⟩
 ·exact absurd (by rw [HN.out,HM.out]) hlen
end Go.Proofs.YthkpanbgkimhoaaGreatDoor
