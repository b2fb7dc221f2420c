import Derived.Test.YtkfgbhlpjkkgfaaGreatDoorN24
import Derived.Test.YtkfgbhlpjkkgfaaGreatDoorN29
import Derived.Test.YtkfgbhlpjkkgfaaGreatDoorN25
import Derived.Lib.AppendZerosOnto
set_option linter.unusedVariables false
set_option linter.unusedSimpArgs false
set_option maxHeartbeats 64000000
set_option maxRecDepth 100000
namespace Go.Proofs.YtkfgbhlpjkkgfaaGreatDoor
open Go.RowKit Go.IntWalk
theorem check_any {ok:Nat→Prop} {w:World} {v:Value} {l:List Nd} (hl:HNds ok w v l) (hg:Gl (fun i=>i<w.heap.size) w) (hF:Rn.nsF l) :
  Calls Tryz.prog 30 #[.agg #[v]] w fun e w'=>e=.returned (.agg #[.int .i64 (Tx.printC l).1,.int .i64 (Tx.printC l).2])∧Below w.heap.size w w':=by
 obtain ⟨ao,cap,rfl,hc1,hc2,_⟩:=hl.at;unfold maxLen at hc2;have bW:Below w.heap.size w ((w.alloc (.cells #[.slice ao l.length cap] 24 (0,0))).alloc (.cells #[.int .i64 0,.int .i64 0] 29 (0,0))):=((Below.refl _ _).alloc nR _).alloc (by simp) _;have hs1:((w.alloc (.cells #[.slice ao l.length cap] 24 (0,0))).alloc (.cells #[.int .i64 0,.int .i64 0] 29 (0,0))).heap.size=w.heap.size+2:=(by simp);have hgW:Gl (fun i=>i<((w.alloc (.cells #[.slice ao l.length cap] 24 (0,0))).alloc (.cells #[.int .i64 0,.int .i64 0] 29 (0,0))).heap.size) ((w.alloc (.cells #[.slice ao l.length cap] 24 (0,0))).alloc (.cells #[.int .i64 0,.int .i64 0] 29 (0,0))):=by
  have g:=hg.keep (Keep.ofBelow bW);have:=bW.size;exact ⟨g.s,g.o,g.t,Nat.lt_of_lt_of_le hg.k0 this,Nat.lt_of_lt_of_le hg.k1 this,Nat.lt_of_lt_of_le hg.k2 this⟩
 have hp:=print_any (hl.under bW) hgW hF;have KB0:((w.alloc (.cells #[.slice ao l.length cap] 24 (0,0))).alloc (.cells #[.int .i64 0,.int .i64 0] 29 (0,0))).heap[w.heap.size+1]?=some (.cells #[.int .i64 0,.int .i64 0] 29 (0,0)):=by
  have:=heap_new (w.alloc (.cells #[.slice ao l.length cap] 24 (0,0))) (.cells #[.int .i64 0,.int .i64 0] 29 (0,0))
  simpa using this
 generalize Tx.printT l=T at hp;generalize Tx.printC l=C at hp ⊢;obtain ⟨cd,ca⟩:=C
 dsimp only at hp ⊢
 clear hgW;go_enter Tryz.func30,Tryz.ntmps30;go_wp2_with fail;refine hp.mono ?_;rintro e w1 ⟨rfl,b1⟩;have B1:=bW.trans (b1.mono (by rw [hs1];omega));have KB:=(b1.block _ (by rw [hs1];omega)).trans KB0;have z1:=b1.size;rw [hs1] at z1;clear hp KB0 hs1;have bF:Below w1.heap.size w1 (w1.alloc (.cells #[.int .i64 cd,.int .i64 ca] 29 (0,0))):=(Below.refl _ _).alloc nR _;have KB1:=(bF.block _ (lt_of KB)).trans KB;have BF:=B1.trans (bF.mono B1.size);have KF:=heap_new w1 (.cells #[.int .i64 cd,.int .i64 ca] 29 (0,0));have pb0:=co KB1 0;have pb1:=co KB1 1;have pf0:=fo KB1 0;have pf1:=fo KB1 1;simp at pb0 pb1;have KR:=set_in (set_in KB1 0 (.int .i64 cd)) 1 (.int .i64 ca);have BR:=((BF.setCell (p:=⟨w.heap.size+1,0,none⟩) (by simp) (.int .i64 cd)).setCell (p:=⟨w.heap.size+1,1,none⟩) (by simp) (.int .i64 ca));have r0:=co KR 0;have r1:=co KR 1;simp at r0 r1;go_wp2;exact bodyPost_ret (v:=.agg #[.int .i64 cd,.int .i64 ca]) (by simp [results,Tryz.results30,go_sem,r0,r1]) rfl ⟨rfl,BR⟩
theorem any_none {l:List Nd} (h:∀ j (hj:j<l.length),Kd.isMain l[j]=false):l.any Kd.isMain=false:=by
 rw [List.any_eq_false];intro x hx;obtain ⟨j,hj,rfl⟩:=List.getElem_of_mem hx;rw [h j hj];simp
theorem indexMain_any {ok:Nat→Prop} {w:World} {v:Value} {l:List Nd} (hl:HNds ok w v l) :
  Calls Tryz.prog 56 #[v,.func (.func 33) #[] #[]] w fun r w'=>∃ c:Int,r=.returned (.int .i64 c)∧decide (0≤c)=l.any Kd.isMain∧Below w.heap.size w w':=by
 obtain ⟨ao,cap,rfl,hc1,hc2,_⟩:=hl.at;unfold maxLen at hc2;have HL:=hide hl;clear hl;obtain ⟨n,hn⟩:=nmQ (l.length);rw [←hn] at hc1 ⊢;have HN:=hide hn;clear hn;go_enter Tryz.func56,Tryz.ntmps56;go_wp2_with fail;go_loopg [8] n (fun k v wr=>∃ i,i≤n∧k=n-i∧v=.int .i64 (i:Nat)∧Hid (∀ j (h:j<l.length),j<i→Kd.isMain l[j]=false)∧Below w.heap.size w wr)
 case atStart=>exact ⟨0,Nat.zero_le _,rfl,rfl,fun j _ h=>absurd h (Nat.not_lt_zero _),Below.refl _ _⟩
 case round=>
  obtain ⟨i,hi,rfl,rfl,H,hbr⟩:=hrel;by_cases hlt:i<n
  case neg=>
   have hin:i=n:=(by omega);subst hin;go_wp2;go_ret;refine ⟨-1,rfl,?_,hbr⟩;rw [any_none (fun j hj=>H.out j hj (by have:=HN.out;omega))];rfl
  case pos=>
   have hil:i<l.length:=(by have:=HN.out;omega);obtain ⟨ao',cap',eqs,_,_,hat2⟩:=(HL.out.under hbr).at;injection eqs with q1 q2 q3;subst q1;obtain ⟨b,o,y,rfl,hb,hy,hnd⟩:=hat2 i hil;obtain ⟨e0,e1,e2,e3,e4,e5,e6⟩:=hy;have hc:=isMain_any hnd;generalize hq:Kd.isMain l[i]=q at hc;clear hat2 hnd q2 q3;go_wp2_with fail;refine hc.mono ?_;rintro e w4 ⟨rfl,b4⟩;clear hc;have BW:=hbr.trans (b4.mono hbr.size)
   cases q
   ·go_wp2_with fail
    go_roundg (n-(i+1))
    case measure=>omega
    case rel=>
     refine ⟨i+1,by omega,rfl,by go_num,fun j hj hji=>?_,BW⟩;by_cases e:j=i
     ·subst e
      exact hq
     ·exact H.out j hj (by omega)
   ·go_wp2
    go_ret;refine ⟨(i:Int),rfl,?_,BW⟩;have:l.any Kd.isMain=true:=List.any_eq_true.2 ⟨l[i],List.getElem_mem hil,hq⟩;rw [this];simp
theorem containsMain_any {ok:Nat→Prop} {w:World} {v:Value} {l:List Nd} (hl:HNds ok w v l) :
  Calls Tryz.prog 32 #[v,.func (.func 33) #[] #[]] w fun r w'=>r=.returned (.bool (l.any Kd.isMain))∧Below w.heap.size w w':=by
 have hc:=indexMain_any hl;obtain ⟨ao,cap,rfl,hc1,hc2,_⟩:=hl.at;clear hl;go_enter Tryz.func32,Tryz.ntmps32;go_wp2_with fail;refine hc.mono ?_;rintro e w1 ⟨c,rfl,hd,b1⟩;go_wp2;go_ret;refine ⟨?_,b1⟩;rw [←hd];by_cases h:0≤c
 ·simp [h]
 ·simp [h]
noncomputable def kcheckC (l:List Nd):Int × Int:=if (Tx.printC l).1≠0 then Tx.printC l else Kd.checkN l
theorem kcheck_any {ok:Nat→Prop} {w:World} {v:Value} {l:List Nd} (hl:HNds ok w v l) (hok:∀ i,ok i→i<w.heap.size) (hG:GlobK w) (hg:Gl (fun i=>i<w.heap.size) w) (hF:Rn.nsF l) (hN:(Tx.printC l).1=0→∀ n ∈ l,NodeFit n∧NodeDoes n) (hln:l.length≤1000000) :
  Calls Tryz.prog 10 #[.agg #[v]] w fun r w'=>r=.returned (.agg #[.int .i64 (kcheckC l).1,.int .i64 (kcheckC l).2])∧Below w.heap.size w w':=by
 obtain ⟨ao,cap,rfl,hc1,hc2,_⟩:=hl.at;obtain ⟨R,hR⟩:=nmQ (kcheckC l);rw [←hR];unfold kcheckC at hR;obtain ⟨n,hn⟩:=nmQ (l.length);rw [←hn] at hl hc1 ⊢;have HNN:=hide hn;clear hn;have b1:Below w.heap.size w ((w.alloc (.cells #[.slice ao n cap] 24 (0,0))).alloc (.cells #[.int .i64 0,.int .i64 0] 29 (0,0))):=((Below.refl _ _).alloc nR _).alloc (by simp) _;have kP:((w.alloc (.cells #[.slice ao n cap] 24 (0,0))).alloc (.cells #[.int .i64 0,.int .i64 0] 29 (0,0))).heap[w.heap.size]?=some (.cells #[.slice ao n cap] 24 (0,0)):=(Below.heap_alloc _ _ _ (by simp)).trans (heap_new w _);have kZ:((w.alloc (.cells #[.slice ao n cap] 24 (0,0))).alloc (.cells #[.int .i64 0,.int .i64 0] 29 (0,0))).heap[w.heap.size+1]?=some (.cells #[.int .i64 0,.int .i64 0] 29 (0,0)):=by
  have:=heap_new (w.alloc (.cells #[.slice ao n cap] 24 (0,0))) (.cells #[.int .i64 0,.int .i64 0] 29 (0,0))
  simpa using this
 have hgW:Gl (fun i=>i<((w.alloc (.cells #[.slice ao n cap] 24 (0,0))).alloc (.cells #[.int .i64 0,.int .i64 0] 29 (0,0))).heap.size) ((w.alloc (.cells #[.slice ao n cap] 24 (0,0))).alloc (.cells #[.int .i64 0,.int .i64 0] 29 (0,0))):=by
  have g:=hg.keep (Keep.ofBelow b1);have:=b1.size;exact ⟨g.s,g.o,g.t,Nat.lt_of_lt_of_le hg.k0 this,Nat.lt_of_lt_of_le hg.k1 this,Nat.lt_of_lt_of_le hg.k2 this⟩
 have hl1:=hl.under b1;have hG1:=hG.under b1;clear hl hG hg;go_enter Tryz.func10,Tryz.ntmps10;go_upto_region 1 with fail;generalize (w.alloc (.cells #[.slice ao n cap] 24 (0,0))).alloc (.cells #[.int .i64 0,.int .i64 0] 29 (0,0))=w1 at b1 kP kZ hgW hl1 hG1 ⊢;have hc:=check_any hl1 hgW hF;have HL1:=hide hl1;have HG1:=hide hG1;clear hl1 hG1 hgW;have p0:=co kP 0;simp at p0;obtain ⟨C,hC⟩:=nmQ (Tx.printC l);rw [←hC] at hc hR hN;clear hC;obtain ⟨c,a⟩:=C
 dsimp only at hc hR hN
 go_wp2_with fail;refine hc.mono ?_;rintro e w2 ⟨rfl,b2⟩;clear hc;have B2:=b1.trans (b2.mono b1.size);have b3:Below w2.heap.size w2 (w2.alloc (.cells #[.int .i64 c,.int .i64 a] 29 (0,0))):=(Below.refl _ _).alloc nR _;have B3:=B2.trans (b3.mono B2.size);have k3:=heap_new w2 (.cells #[.int .i64 c,.int .i64 a] 29 (0,0));have kZ3:=(b3.block _ (lt_of ((b2.block _ (lt_of kZ)).trans kZ))).trans ((b2.block _ (lt_of kZ)).trans kZ);have kP3:=(b3.block _ (lt_of ((b2.block _ (lt_of kP)).trans kP))).trans ((b2.block _ (lt_of kP)).trans kP);have HL3:=hide ((HL1.out.under b2).under b3);have HG3:=hide ((HG1.out.under b2).under b3);go_upto_region 2 with fail;generalize w2.alloc (.cells #[.int .i64 c,.int .i64 a] 29 (0,0))=w3 at b3 B3 k3 kZ3 kP3 HL3 HG3 ⊢;clear HL1 HG1 p0 kZ kP;have m0:=co k3 0;have m1:=co k3 1;have p0:=co kP3 0;simp at m0 m1 p0;by_cases hz:c=0
 case neg=>
  rw [if_pos hz] at hR;have hz2:(c != 0)=true:=(by simpa using hz);have y3:=lt_of k3;have st0:=co kZ3 0;have st1:=co kZ3 1;have fr0:=fo kZ3 0;have fr1:=fo kZ3 1;simp at st0 st1;have KR:=set_in (set_in kZ3 0 (.int .i64 c)) 1 (.int .i64 a);have r0:=co KR 0;have r1:=co KR 1;simp at r0 r1;have BR:=(B3.setCell (p:=⟨w.heap.size+1,0,none⟩) (by simp) (.int .i64 c)).setCell (p:=⟨w.heap.size+1,1,none⟩) (by simp) (.int .i64 a);clear KR;go_wp2;exact bodyPost_ret (v:=.agg #[.int .i64 c,.int .i64 a]) (by simp [results,Tryz.results10,go_sem,r0,r1]) rfl ⟨by rw [hR],BR⟩
 case pos=>
  subst hz;rw [if_neg (by simp)] at hR;unfold Kd.checkN at hR;have hc:=faultOfNodes_any HL3.out (fun i hi=>Nat.lt_of_lt_of_le (hok i hi) B3.size) HG3.out (hN rfl) hln;generalize Kd.goN [] l 0 0=D at hc hR;obtain ⟨c,a⟩:=D
  dsimp only at hc hR
  go_wp2_with fail;refine hc.mono ?_;rintro e w4 ⟨rfl,b4⟩;clear hc;have B4:=B3.trans (b4.mono B3.size);have b5:Below w4.heap.size w4 (w4.alloc (.cells #[.int .i64 c,.int .i64 a] 29 (0,0))):=(Below.refl _ _).alloc nR _;have B5:=B4.trans (b5.mono B4.size);have k5:=heap_new w4 (.cells #[.int .i64 c,.int .i64 a] 29 (0,0));have kZ5:=(b5.block _ (lt_of ((b4.block _ (lt_of kZ3)).trans kZ3))).trans ((b4.block _ (lt_of kZ3)).trans kZ3);have kP5:=(b5.block _ (lt_of ((b4.block _ (lt_of kP3)).trans kP3))).trans ((b4.block _ (lt_of kP3)).trans kP3);have HL5:=hide ((HL3.out.under b4).under b5);go_upto_region 5 with fail;generalize w4.alloc (.cells #[.int .i64 c,.int .i64 a] 29 (0,0))=w5 at b5 B5 k5 kZ5 kP5 HL5 ⊢;clear HL3 HG3 p0 kZ3 kP3 m0 m1 k3;have m0:=co k5 0;have m1:=co k5 1;have p0:=co kP5 0;simp at m0 m1 p0;by_cases hz:c=0
  case neg=>
   rw [if_pos hz] at hR;have hz2:(c != 0)=true:=(by simpa using hz);have y5:=lt_of k5;have st0:=co kZ5 0;have st1:=co kZ5 1;have fr0:=fo kZ5 0;have fr1:=fo kZ5 1;simp at st0 st1;have KR:=set_in (set_in kZ5 0 (.int .i64 c)) 1 (.int .i64 a);have r0:=co KR 0;have r1:=co KR 1;simp at r0 r1;have BR:=(B5.setCell (p:=⟨w.heap.size+1,0,none⟩) (by simp) (.int .i64 c)).setCell (p:=⟨w.heap.size+1,1,none⟩) (by simp) (.int .i64 a);clear KR;go_wp2;exact bodyPost_ret (v:=.agg #[.int .i64 c,.int .i64 a]) (by simp [results,Tryz.results10,go_sem,r0,r1]) rfl ⟨by rw [hR],BR⟩
  case pos=>
   subst hz;rw [if_neg (by simp)] at hR;have hc:=containsMain_any HL5.out;generalize l.any Kd.isMain=q at hc hR;go_wp2_with fail;refine hc.mono ?_;rintro e w6 ⟨rfl,b6⟩;clear hc m0 m1 p0;have B6:=B5.trans (b6.mono B5.size);have kZ6:=(b6.block _ (lt_of kZ5)).trans kZ5
   cases q
   ·rw [if_neg (by simp)] at hR
    have st0:=co kZ6 0;have st1:=co kZ6 1;have fr0:=fo kZ6 0;have fr1:=fo kZ6 1;simp at st0 st1;have KR:=set_in (set_in kZ6 0 (.int .i64 14)) 1 (.int .i64 (-1));have r0:=co KR 0;have r1:=co KR 1;simp at r0 r1;have BR:=(B6.setCell (p:=⟨w.heap.size+1,0,none⟩) (by simp) (.int .i64 14)).setCell (p:=⟨w.heap.size+1,1,none⟩) (by simp) (.int .i64 (-1));clear KR;go_wp2;exact bodyPost_ret (v:=.agg #[.int .i64 14,.int .i64 (-1)]) (by simp [results,Tryz.results10,go_sem,r0,r1]) rfl ⟨by rw [hR],BR⟩
   ·rw [if_pos rfl] at hR
    have st0:=co kZ6 0;have st1:=co kZ6 1;have fr0:=fo kZ6 0;have fr1:=fo kZ6 1;simp at st0 st1;have KR:=set_in (set_in kZ6 0 (.int .i64 0)) 1 (.int .i64 0);have r0:=co KR 0;have r1:=co KR 1;simp at r0 r1;have BR:=(B6.setCell (p:=⟨w.heap.size+1,0,none⟩) (by simp) (.int .i64 0)).setCell (p:=⟨w.heap.size+1,1,none⟩) (by simp) (.int .i64 0);clear KR;go_wp2;exact bodyPost_ret (v:=.agg #[.int .i64 0,.int .i64 0]) (by simp [results,Tryz.results10,go_sem,r0,r1]) rfl ⟨by rw [hR],BR⟩
end Go.Proofs.YtkfgbhlpjkkgfaaGreatDoor
namespace Go.Proofs.YtkfgbhlpjkkgfaaGreatDoor
open Go.RowKit Go.IntWalk Go.Lib
theorem wpList_catT {w w':World} {ops:Array Oper} {rest:List Oper} {o:Oper} {a:Act} {Q:Exit→Act→World→Prop} (hgd:o.guard=none) (s x:Operand) (t u2:TypeId) (ho:o.op=.call { callee:=.builtin .append,args:=#[s,x],argTypes:=#[t,u2] }) (v u v':Value) (hs:a.eval s=v) (hx:a.eval x=u)
  (hr:(Builtin.append_ #[t,u2] o.type #[v,u]).run Tryz.prog w=.ok v' w') (h:wpList Tryz.prog ops Q rest (a.put o.dst v') w'):wpList Tryz.prog ops Q (o :: rest) a w:=by
 refine wpList_plain hgd fun _ hK=>?_;unfold Oper.wp execOp;simp only [ho,resolve,invoke,builtin,Sem.run_bind,Sem.run_pure,Result.andThen_ok,List.map_toArray,List.map_cons,List.map_nil,hs,hx,hr];exact hK _ _ h
theorem grow_any (n:Nat) (w:World) (hn:0<n) (hm:n≤3000000) :
  Calls Tryz.prog 233 #[.slice none 0 0,.int .i64 (n:Int)] w fun r w'=>∃ g c,r=.returned (.slice (some ⟨g,0,none⟩) 0 c)∧OwnL kTerm w.heap.size w' (.slice (some ⟨g,0,none⟩) 0 c) []∧Below w.heap.size w w':=by
 obtain ⟨i0,hi,hz0,hz1,hz2⟩:=info_parts kTerm.info;have hk2:kTerm.k=2:=rfl;have hb24:i0.bytes=24:=hz2;have hs2:i0.size=2:=hz1;have hr:∀ ty,(Builtin.append_ #[33,3] ty #[.slice none 0 0,.int .i64 (n:Int)]).run Tryz.prog w=_:=fun ty=>
  Lib.run_append_grow_zeros w 33 3 ty 83 i0 kTerm.zero .i64 .i64 Tryz.underlying33 Tryz.underlying3 hi hz0 none 0 0 [] (run_firstCells_none w.drew i0.size 0 0 0) n hn (by omega) (by omega) (by omega) (by rw [hb24];omega) (growslice_fits (by omega) (by rw [hb24];omega))
 simp only [Nat.zero_add] at hr;have hge:=grownCap_ge w n 0 83;have hle:=grownCap_le_maxLen w n 0 83 (by unfold maxLen;omega);generalize grownCap w n 0 83=c at hr hge hle;have h1:¬((n:Int)<0):=(by omega);have h4:(0:Int)<(n:Int):=(by omega);have h0:(0:Int)≤(c:Int):=(by omega);have hcs:(#[]++Builtin.zeroCells kTerm.zero.cells n++Builtin.zeroCells kTerm.zero.cells (c-n):Array Value).size=c*2:=by
  have e1:=zero_cells_len n;have e2:=zero_cells_len (c-n);simp only [Array.length_toList] at e1 e2;simp only [Array.size_append,e1,e2];simp;omega
 generalize (#[]++Builtin.zeroCells kTerm.zero.cells n++Builtin.zeroCells kTerm.zero.cells (c-n):Array Value)=Z at hr hcs;have hown:OwnL kTerm w.heap.size (w.drew.alloc (.cells Z 83)) (.slice (some ⟨w.heap.size,0,none⟩) 0 c) []:=⟨fun _=>[],World.ownsRow_made w.drew Z c nR hle hcs,fun j h=>absurd h (Nat.not_lt_zero _)⟩;have hB:Below w.heap.size w (w.drew.alloc (.cells Z 83)):=((Below.refl _ _).drew).alloc nR _;have HO:=hide hown;have HB:=hide hB;clear hown hB hcs hi hz0 hz1 hz2;go_enter Tryz.func233,Tryz.ntmps233
 go_wp2_with (at_builtin;refine wpList_catT rfl _ _ 33 3 rfl _ _ _ (by rfl) (by rfl) (hr _) ?_)
 go_ret;exact ⟨_,_,rfl,HO.out,HB.out⟩
def szI (a b:Nat) (i:Nat):Nat:=if i=0 then 0 else if i=1 then a else a+b
def catI (A B:List Tm) (i:Nat):List Tm:=if i=0 then [] else if i=1 then A else A++B
theorem concat_any {ok ok':Nat→Prop} {w:World} {g na ca nb cb:Nat} {aa ab:Option Addr} {A B:List Tm} (hg:w.heap[g]?=some (.cells #[.slice aa na ca,.slice ab nb cb] 33 (0,0))) (hA:HTerms ok w (.slice aa na ca) A) (hB:HTerms ok' w (.slice ab nb cb) B) (hA0:0<A.length) (hAm:A.length≤1000000) (hBm:B.length≤1000000) :
  Calls Tryz.prog 200 #[.slice (some ⟨g,0,none⟩) 2 2] w fun r w'=>∃ v,r=.returned v∧OwnL kTerm w.heap.size w' v (A++B)∧Below w.heap.size w w':=by
 have eA2:na=A.length:=by
  obtain ⟨_,_,e,_⟩:=hA.at;injection e
 have eB2:nb=B.length:=by
  obtain ⟨_,_,e,_⟩:=hB.at;injection e
 subst eA2 eB2;have c0:=co hg 0;have c1:=co hg 1;simp at c0 c1;have yg:=lt_of hg;have HA:=hide hA;have HB:=hide hB;clear hA hB;go_enter Tryz.func200,Tryz.ntmps200;go_wp2_with fail;go_loopg [3,11] 2 (fun gh v3 v11 wr=>∃ i:Nat,i≤2∧gh=2-i∧v3=.int .i64 ((szI A.length B.length i:Nat):Int)∧v11=.int .i64 (i:Int)∧w=wr)
 case atStart=>exact ⟨0,by omega,rfl,rfl,rfl,rfl⟩
 case round=>
  obtain ⟨i,hi,rfl,rfl,rfl,rfl⟩:=hrel;by_cases hlt:i<2
  case pos=>
   rcases (show i=0∨i=1 by omega) with rfl | rfl
   ·have hx:¬((A.length:Int)<0):=by omega
    simp only [szI,if_true];go_wp2_with fail;go_roundg 1
    case measure=>omega
    case rel=>exact ⟨1,by omega,rfl,by simp [szI],by go_num,rfl⟩
   ·have hx:¬((A.length:Int)+(B.length:Int)<0):=by omega
    have hs1:szI A.length B.length 1=A.length:=(by simp [szI]);rw [hs1];go_wp2_with fail;go_roundg 0
    case measure=>omega
    case rel=>exact ⟨2,by omega,rfl,by simp [szI],by go_num,rfl⟩
  case neg=>
   have hi2:i=2:=(by omega);subst hi2;have hs2:szI A.length B.length 2=A.length+B.length:=(by simp [szI]);rw [hs2];have hc:=grow_any (A.length+B.length) w (by omega) (by omega);go_wp2_with fail;refine hc.mono ?_;rintro e w1 ⟨g1,k1,rfl,own1,b1⟩;clear hc hs2;have d0:=(b1.cell (p:=⟨g,0,none⟩) yg).trans c0;have d1:=(b1.cell (p:=⟨g,1,none⟩) yg).trans c1;have z1:=Nat.lt_of_lt_of_le yg b1.size;have HOWN:=hide own1;clear own1 c0 c1 hg;go_wp2_with fail;go_loopg [6,27] 2 (fun gh v6 v27 wr=>∃ (i:Nat) (v:Value),i≤2∧gh=2-i∧v6=v∧v27=.int .i64 (i:Int)∧Hid (OwnL kTerm w.heap.size wr v (catI A B i))∧Below w.heap.size w wr∧wr.cell? ⟨g,0,none⟩=some (.slice aa A.length ca)∧wr.cell? ⟨g,1,none⟩=some (.slice ab B.length cb)∧g<wr.heap.size)
   case atStart=>exact ⟨0,_,by omega,rfl,rfl,rfl,hide (by simpa [catI] using HOWN.out),b1,d0,d1,z1⟩
   case round=>
    obtain ⟨i,v,hi,rfl,rfl,rfl,HO,bR,f0,f1,zR⟩:=hrel;by_cases hlt:i<2
    case pos=>
     rcases (show i=0∨i=1 by omega) with rfl | rfl
     ·have hv:=HO.out
      simp only [catI,if_true] at hv;obtain ⟨v',w3,hr,own3,b3,g3⟩:=run_cat (ty:=33) (B:=w.heap.size) hv (HA.out.under bR) bR.size (by simp;omega);have e0:=(b3.cell (p:=⟨g,0,none⟩) yg).trans f0;have e1:=(b3.cell (p:=⟨g,1,none⟩) yg).trans f1;have HO3:=hide own3;clear hv own3 g3
      go_wp2_with (at_builtin;refine wpList_catT rfl _ _ 33 33 rfl _ _ _ (by rfl) (by rfl) hr ?_)
      go_roundg 1
      case measure=>omega
      case rel=>exact ⟨1,_,by omega,rfl,rfl,by go_num,hide (by simpa [catI] using HO3.out),bR.trans b3,e0,e1,Nat.lt_of_lt_of_le zR b3.size⟩
     ·have hv:=HO.out
      have hs1:catI A B 1=A:=(by simp [catI]);rw [hs1] at hv;obtain ⟨v',w3,hr,own3,b3,g3⟩:=run_cat (ty:=33) (B:=w.heap.size) hv (HB.out.under bR) bR.size (by omega);have e0:=(b3.cell (p:=⟨g,0,none⟩) yg).trans f0;have e1:=(b3.cell (p:=⟨g,1,none⟩) yg).trans f1;have HO3:=hide own3;clear hv own3 g3
      go_wp2_with (at_builtin;refine wpList_catT rfl _ _ 33 33 rfl _ _ _ (by rfl) (by rfl) hr ?_)
      go_roundg 0
      case measure=>omega
      case rel=>exact ⟨2,_,by omega,rfl,rfl,by go_num,hide (by simpa [catI] using HO3.out),bR.trans b3,e0,e1,Nat.lt_of_lt_of_le zR b3.size⟩
    case neg=>
     have hi2:i=2:=(by omega);subst hi2;have hv:=HO.out;have hs2:catI A B 2=A++B:=(by simp [catI]);rw [hs2] at hv;have HV:=hide hv;clear hv HO;go_wp2;go_ret;exact ⟨_,rfl,HV.out,bR⟩
end Go.Proofs.YtkfgbhlpjkkgfaaGreatDoor
namespace Go.Proofs.YtkfgbhlpjkkgfaaGreatDoor
open Go.RowKit Go.IntWalk
theorem typeOfCat_any {ok ok':Nat→Prop} {w:World} {v u:Value} {a b:Kd.Ty} (ha:HTy ok w v a) (hb:HTy ok' w u b) (hla:Short a) (hlb:Short b) :
  Calls Tryz.prog 172 #[v,u] w fun r w'=>∃ z c,r=.returned (.tuple #[z,.int .i64 c])∧TRes (fun i=>w.heap.size≤i) w' z c (Kd.cat a b)∧Below w.heap.size w w':=by
 have HA:=hide ha;have HB:=hide hb;obtain ⟨va,rfl,hva⟩:=ha;obtain ⟨aa,ca,rfl,_,_,_⟩:=hva.at;obtain ⟨vb,rfl,hvb⟩:=hb;obtain ⟨ab,cb,rfl,_,_,_⟩:=hvb.at;unfold Short at hla hlb;obtain ⟨R,hR⟩:=nmQ (Kd.cat a b);rw [←hR];unfold Kd.cat at hR;have b1:Below w.heap.size w (((w.alloc (.cells #[.int .u8 a.elem,.slice aa a.n.length ca] 35 (0,0))).alloc (.cells #[.int .u8 b.elem,.slice ab b.n.length cb] 35 (0,0))).alloc (.cells #[.int .u8 0,.slice none 0 0] 35 (0,0))):=(((Below.refl _ _).alloc nR _).alloc (by simp) _).alloc (by simp;omega) _;have kA:(((w.alloc (.cells #[.int .u8 a.elem,.slice aa a.n.length ca] 35 (0,0))).alloc (.cells #[.int .u8 b.elem,.slice ab b.n.length cb] 35 (0,0))).alloc (.cells #[.int .u8 0,.slice none 0 0] 35 (0,0))).heap[w.heap.size]?=some (.cells #[.int .u8 a.elem,.slice aa a.n.length ca] 35 (0,0)):=(Below.heap_alloc _ _ _ (by simp;omega)).trans ((Below.heap_alloc _ _ _ (by simp)).trans (heap_new w _));have kB:(((w.alloc (.cells #[.int .u8 a.elem,.slice aa a.n.length ca] 35 (0,0))).alloc (.cells #[.int .u8 b.elem,.slice ab b.n.length cb] 35 (0,0))).alloc (.cells #[.int .u8 0,.slice none 0 0] 35 (0,0))).heap[w.heap.size+1]?=some (.cells #[.int .u8 b.elem,.slice ab b.n.length cb] 35 (0,0)):=by
  have:=heap_new (w.alloc (.cells #[.int .u8 a.elem,.slice aa a.n.length ca] 35 (0,0))) (.cells #[.int .u8 b.elem,.slice ab b.n.length cb] 35 (0,0));refine (Below.heap_alloc _ _ _ (by simp)).trans ?_
  simpa using this
 have kZ:(((w.alloc (.cells #[.int .u8 a.elem,.slice aa a.n.length ca] 35 (0,0))).alloc (.cells #[.int .u8 b.elem,.slice ab b.n.length cb] 35 (0,0))).alloc (.cells #[.int .u8 0,.slice none 0 0] 35 (0,0))).heap[w.heap.size+1+1]?=some (.cells #[.int .u8 0,.slice none 0 0] 35 (0,0)):=by
  have:=heap_new ((w.alloc (.cells #[.int .u8 a.elem,.slice aa a.n.length ca] 35 (0,0))).alloc (.cells #[.int .u8 b.elem,.slice ab b.n.length cb] 35 (0,0))) (.cells #[.int .u8 0,.slice none 0 0] 35 (0,0))
  simpa using this
 have HA1:=hide (HA.out.under b1);have HB1:=hide (HB.out.under b1);have HVA:=hide (hva.under b1);have HVB:=hide (hvb.under b1);clear hva hvb HA HB;go_enter Tryz.func172,Tryz.ntmps172;go_upto_region 1 with fail;generalize ((w.alloc (.cells #[.int .u8 a.elem,.slice aa a.n.length ca] 35 (0,0))).alloc (.cells #[.int .u8 b.elem,.slice ab b.n.length cb] 35 (0,0))).alloc (.cells #[.int .u8 0,.slice none 0 0] 35 (0,0))=w1 at b1 kA kB kZ HA1 HB1 HVA HVB ⊢;have a0:=co kA 0;have a1:=co kA 1;have q0:=co kB 0;have q1:=co kB 1;simp at a0 a1 q0 q1;have hc:=isArray_any HA1.out;generalize hqa:Kd.arr a=qa at hc hR;go_wp2_with fail;refine hc.mono ?_;rintro e w2 ⟨rfl,b2⟩;clear hc;have B2:=b1.trans (b2.mono b1.size);have kZ2:=(b2.block _ (lt_of kZ)).trans kZ;have a02:=(b2.cell (p:=⟨w.heap.size,0,none⟩) (lt_of kA)).trans a0;have a12:=(b2.cell (p:=⟨w.heap.size,1,none⟩) (lt_of kA)).trans a1;have q02:=(b2.cell (p:=⟨w.heap.size+1,0,none⟩) (lt_of kB)).trans q0;have q12:=(b2.cell (p:=⟨w.heap.size+1,1,none⟩) (lt_of kB)).trans q1;have yA2:=Nat.lt_of_lt_of_le (lt_of kA) b2.size;have yB2:=Nat.lt_of_lt_of_le (lt_of kB) b2.size;clear a0 a1 q0 q1 kA kB kZ
 cases qa
 case false=>
  rw [if_neg (by simp)] at hR;clear HA1 HB1 HVA HVB;have st0:=co kZ2 0;have st1:=co kZ2 1;have fr0:=fo kZ2 0;have fr1:=fo kZ2 1;simp at st0 st1;have KR:=set_in (set_in kZ2 0 (.int .u8 0)) 1 (.slice none 0 0);have r0:=co KR 0;have r1:=co KR 1;simp at r0 r1;have BR:=(B2.setCell (p:=⟨w.heap.size+1+1,0,none⟩) (by simp;try omega) (.int .u8 0)).setCell (p:=⟨w.heap.size+1+1,1,none⟩) (by simp;try omega) (.slice none 0 0);clear KR;go_wp2;exact bodyPost_ret (v:=.tuple #[.agg #[.int .u8 0,.slice none 0 0],.int .i64 10]) (by simp [results,Tryz.results172,go_sem,r0,r1]) rfl ⟨_,_,rfl,by rw [hR];exact ⟨rfl,by decide,rfl⟩,BR⟩
 case true=>
  rw [Bool.true_and] at hR;have hc:=isArrayOf_any (HB1.out.under b2) a.elem;generalize Kd.isAr b a.elem=qb at hc hR;go_wp2_with fail;refine hc.mono ?_;rintro e w3 ⟨rfl,b3⟩;clear hc;have B3:=B2.trans (b3.mono B2.size);have kZ3:=(b3.block _ (lt_of kZ2)).trans kZ2;have a03:=(b3.cell (p:=⟨w.heap.size,0,none⟩) yA2).trans a02;have a13:=(b3.cell (p:=⟨w.heap.size,1,none⟩) yA2).trans a12;have q13:=(b3.cell (p:=⟨w.heap.size+1,1,none⟩) yB2).trans q12;have yA3:=Nat.lt_of_lt_of_le yA2 b3.size;have yB3:=Nat.lt_of_lt_of_le yB2 b3.size;clear a02 a12 q02 q12 kZ2
  cases qb
  case false=>
   rw [if_neg (by simp)] at hR;clear HA1 HB1 HVA HVB;have st0:=co kZ3 0;have st1:=co kZ3 1;have fr0:=fo kZ3 0;have fr1:=fo kZ3 1;simp at st0 st1;have KR:=set_in (set_in kZ3 0 (.int .u8 0)) 1 (.slice none 0 0);have r0:=co KR 0;have r1:=co KR 1;simp at r0 r1;have BR:=(B3.setCell (p:=⟨w.heap.size+1+1,0,none⟩) (by simp;try omega) (.int .u8 0)).setCell (p:=⟨w.heap.size+1+1,1,none⟩) (by simp;try omega) (.slice none 0 0);clear KR;go_wp2;exact bodyPost_ret (v:=.tuple #[.agg #[.int .u8 0,.slice none 0 0],.int .i64 10]) (by simp [results,Tryz.results172,go_sem,r0,r1]) rfl ⟨_,_,rfl,by rw [hR];exact ⟨rfl,by decide,rfl⟩,BR⟩
  case true=>
   rw [if_pos rfl] at hR;have bL:Below w3.heap.size w3 (w3.alloc (.cells #[.slice aa a.n.length ca,.slice ab b.n.length cb] 33 (0,0))):=(Below.refl _ _).alloc nR _;have kL:=heap_new w3 (.cells #[.slice aa a.n.length ca,.slice ab b.n.length cb] 33 (0,0));have hpos:0<a.n.length:=(by unfold Kd.arr at hqa;simpa using hqa);have hc:=concat_any kL (((HVA.out.under b2).under b3).under bL) (((HVB.out.under b2).under b3).under bL) hpos (by omega) (by omega);have B4:=B3.trans (bL.mono B3.size);have kZ4:=(bL.block _ (lt_of kZ3)).trans kZ3;have a04:=(bL.cell (p:=⟨w.heap.size,0,none⟩) yA3).trans a03;have yA4:=Nat.lt_of_lt_of_le yA3 bL.size;clear HA1 HB1 HVA HVB kL;go_wp2_with fail;refine hc.mono ?_;rintro e w5 ⟨vn,rfl,own5,b5⟩;clear hc;have B5:=B4.trans (b5.mono B4.size);have kZ5:=(b5.block _ (lt_of kZ4)).trans kZ4;have a05:=(b5.cell (p:=⟨w.heap.size,0,none⟩) yA4).trans a04;have yA5:=Nat.lt_of_lt_of_le yA4 b5.size;have hT5:=terms_row own5.row;have HT5:=hide (hT5.wide (ok':=fun i=>w.heap.size≤i∧i≠w.heap.size+1+1) (fun i hi _=>⟨Nat.le_trans B4.size hi,by have:=lt_of kZ4;omega⟩));clear own5 hT5 kZ4 a04 a03 a13 q13 kZ3;have hc:=codeOfRange_any HT5.out;unfold Kd.rng at hc;generalize hok:Kd.okB (a.n++b.n)=qk at hc hR;clear hok
   cases qk
   case false=>
    rw [if_neg (by simp)] at hc hR;go_wp2_with fail;refine hc.mono ?_;rintro e w6 ⟨rfl,b6⟩;clear hc;have B6:=B5.trans (b6.mono B5.size);have kZ6:=(b6.block _ (lt_of kZ5)).trans kZ5;have st0:=co kZ6 0;have st1:=co kZ6 1;have fr0:=fo kZ6 0;have fr1:=fo kZ6 1;simp at st0 st1;have KR:=set_in (set_in kZ6 0 (.int .u8 0)) 1 (.slice none 0 0);have r0:=co KR 0;have r1:=co KR 1;simp at r0 r1;have BR:=(B6.setCell (p:=⟨w.heap.size+1+1,0,none⟩) (by simp;try omega) (.int .u8 0)).setCell (p:=⟨w.heap.size+1+1,1,none⟩) (by simp;try omega) (.slice none 0 0);clear KR;go_wp2;exact bodyPost_ret (v:=.tuple #[.agg #[.int .u8 0,.slice none 0 0],.int .i64 16]) (by simp [results,Tryz.results172,go_sem,r0,r1]) rfl ⟨_,_,rfl,by rw [hR];exact ⟨rfl,by decide,rfl⟩,BR⟩
   case true=>
    rw [if_pos rfl] at hc hR;go_wp2_with fail;refine hc.mono ?_;rintro e w6 ⟨rfl,b6⟩;clear hc;have B6:=B5.trans (b6.mono B5.size);have kZ6:=(b6.block _ (lt_of kZ5)).trans kZ5;have a06:=(b6.cell (p:=⟨w.heap.size,0,none⟩) yA5).trans a05;have hc:=arrayOf_any (HT5.out.under b6) a.elem;clear HT5 kZ5 a05;go_wp2_with fail;refine hc.mono ?_;rintro e w7 ⟨z,rfl,hz7,b7⟩;clear hc;have B7:=B6.trans (b7.mono B6.size);have kZ7:=(b7.block _ (lt_of kZ6)).trans kZ6;obtain ⟨zu,rfl,hzu⟩:=hz7;obtain ⟨za,zn,zc,rfl⟩:=hzu.slice;have hze:(Kd.mkA a.elem (a.n++b.n)).elem=a.elem:=rfl;rw [hze];have hnz:¬okU (fun i=>w.heap.size≤i∧i≠w.heap.size+1+1) w6.heap.size (w.heap.size+1+1):=by
     rintro (h | h)
     ·exact h.2 rfl
     ·have:=lt_of kZ6;omega
    have HZ:=hide ((hzu.set (p:=⟨w.heap.size+1+1,0,none⟩) hnz (.int .u8 a.elem)).set (p:=⟨w.heap.size+1+1,1,none⟩) hnz (.slice za zn zc));have w6w:=B6.size;clear hzu kZ6 a06 hze;have st0:=co kZ7 0;have st1:=co kZ7 1;have fr0:=fo kZ7 0;have fr1:=fo kZ7 1;simp at st0 st1;have KR:=set_in (set_in kZ7 0 (.int .u8 a.elem)) 1 (.slice za zn zc);have r0:=co KR 0;have r1:=co KR 1;simp at r0 r1;have BR:=(B7.setCell (p:=⟨w.heap.size+1+1,0,none⟩) (by simp;try omega) (.int .u8 a.elem)).setCell (p:=⟨w.heap.size+1+1,1,none⟩) (by simp;try omega) (.slice za zn zc);clear KR;go_wp2;exact bodyPost_ret (v:=.tuple #[.agg #[.int .u8 a.elem,.slice za zn zc],.int .i64 0]) (by simp [results,Tryz.results172,go_sem,r0,r1]) rfl ⟨_,_,rfl,by rw [hR];exact ⟨rfl,_,rfl,HZ.out.wide (fun i hi _=>hi.elim (fun h=>h.1) (fun h=>Nat.le_trans w6w h))⟩,BR⟩
end Go.Proofs.YtkfgbhlpjkkgfaaGreatDoor
