import Derived.Test.YtegakbobaecdlaaGreatDoorG39
set_option linter.unusedVariables false
set_option linter.unusedSimpArgs false
set_option maxHeartbeats 64000000
set_option maxRecDepth 100000
namespace Go.Proofs.YtegakbobaecdlaaGreatDoor
open Go.RowKit Go.IntWalk
open Go in
theorem wpAnyL_three {P:Program} {ops:Array Oper} {Q:Exit->Act->World->Prop} {md:Region.Mode} {S:World->Prop} {late:Nat->Bool} {i j k:Nat} {oi oj ok:Oper} {fuel:Nat} {listed:Array Bool} {a:Act} {w:World} (hoi:ops[i]?=some oi) (hoj:ops[j]?=some oj) (hok:ops[k]?=some ok) (hr:Region.ready md ops listed=[i,j,k])
  (hwi:Region.wanted oi (yielded ops a.tmps)=true) (hwj:Region.wanted oj (yielded ops a.tmps)=true) (hwk:Region.wanted ok (yielded ops a.tmps)=true)
  (hi:∀ K':Act->World->Prop,Shut (∀ a w,(late i=false->S w)->wpAnyL P md ops Q S late fuel (listed.setIfInBounds i true) a w->K' a w)->Oper.wp P oi a w K' Q)
  (hj:∀ K':Act->World->Prop,Shut (∀ a w,(late j=false->S w)->wpAnyL P md ops Q S late fuel (listed.setIfInBounds j true) a w->K' a w)->Oper.wp P oj a w K' Q)
  (hk:∀ K':Act->World->Prop,Shut (∀ a w,(late k=false->S w)->wpAnyL P md ops Q S late fuel (listed.setIfInBounds k true) a w->K' a w)->Oper.wp P ok a w K' Q)
  : wpAnyL P md ops Q S late (fuel+1) listed a w:=by
 refine ⟨fun h0=>(by rw [hr] at h0;cases h0),fun q hq=>?_⟩;rw [hr] at hq;simp at hq;rcases hq with rfl | rfl | rfl
 ·refine wpOp_step hoi (fun K' hK=>?_)
  rw [if_pos hwi];exact hi K' (fun a w hS hW=>hK a w ⟨hS,hW⟩)
 ·refine wpOp_step hoj (fun K' hK=>?_)
  rw [if_pos hwj];exact hj K' (fun a w hS hW=>hK a w ⟨hS,hW⟩)
 ·refine wpOp_step hok (fun K' hK=>?_)
  rw [if_pos hwk];exact hk K' (fun a w hS hW=>hK a w ⟨hS,hW⟩)
theorem jM {ok:Nat->Prop} {w:World} {v:Value} {l:List Int} {N:Nat} {bs cs:Array Value} {p:Int->Bool} (eg:∀ args w,(callFunc N args).run Tryz.prog w=.ok (.enter N args) w) (hl:HInts ok w v l) (hp:∀ x ∈ l,∀ W,Below w.heap.size w W->Calls Tryz.prog N (bs++#[.int .i64 x]++cs) W fun e W'=>e=.returned (.bool (p x))/\Below W.heap.size W W') :
  Calls Tryz.prog 50 #[v,.func (.func N) bs cs] w fun e w'=>e=.returned (.int .i64 (Sk.idxI p 0 l))/\Below w.heap.size w w':=by
 obtain ⟨ao,cap,rfl,hc1,hc2,-⟩:=hl.at;unfold maxLen at hc2;obtain ⟨R,hR⟩:=nmQ (Sk.idxI p 0 l);rw [<-hR];have HR:=zG (show R=Sk.idxI p 0 (l.drop 0) by rw [List.drop_zero];exact hR);have HL:=zG hl;have HP:=zG hp;clear hR hl hp;obtain ⟨n,hn⟩:=nmQ (l.length);rw [<-hn] at hc1 ⊢;have HN:=zG hn;clear hn;go_enter Tryz.func50,Tryz.ntmps50;go_wp2_with fail;go_loopg [8] n (fun k v wr=>∃ i,i<=n/\k=n-i/\v=.int .i64 (i:Nat)/\Hid (R=Sk.idxI p i (l.drop i))/\Below w.heap.size w wr)
 case atStart=>exact ⟨0,Nat.zero_le _,rfl,rfl,HR,Below.refl _ _⟩
 case round=>
  clear HR;obtain ⟨i,hi,rfl,rfl,H,hbr⟩:=hrel;by_cases hlt:i<n
  case neg=>
   have hin:i=n:=(by omega);subst hin;have e1:l.drop i=[]:=List.drop_of_length_le (by have:=HN.out;omega);have HZ:=zG (show R = -1 by rw [H.out,e1];rfl);clear e1;go_wp2;go_ret;exact ⟨by rw [HZ.out];rfl,hbr⟩
  case pos=>
   have hil:i<l.length:=(by have:=HN.out;omega);have hdr:l.drop i=l[i] :: l.drop (i+1):=List.drop_eq_getElem_cons hil;have hR1:=H.out;rw [hdr] at hR1;obtain ⟨ao',cap',eqs,-,-,hat2⟩:=(HL.out.under hbr).at;injection eqs with q1 q2 q3;subst q1;obtain ⟨bb,o,rfl,hb,e0⟩:=hat2 i hil;obtain ⟨y,hy⟩:=nmQ (l[i]);have hc:=HP.out y (by rw [hy];exact List.getElem_mem hil) wr hbr;rw [<-hy] at e0 hR1;unfold Sk.idxI at hR1;generalize p y=q at hc hR1;have HR1:=zG hR1;clear hat2 q2 q3 hy hdr hR1 H;go_wp2_with fail;refine hc.mono ?_;rintro e w4 ⟨rfl,b4⟩;have B4:=hbr.trans (b4.mono hbr.size);clear hc
   cases q
   case false=>
    have HZ:Hid (R=Sk.idxI p (i+1) (l.drop (i+1))):=zG (by rw [HR1.out];simp);clear HR1;go_wp2_with fail;go_roundg (n-(i+1))
    case measure=>omega
    case rel=>exact ⟨i+1,by omega,rfl,by go_num,HZ,B4⟩
   case true=>
    have HZ:Hid (R=(i:Int)):=zG (by rw [HR1.out];simp);clear HR1;go_wp2;go_ret;exact ⟨by rw [HZ.out];rfl,B4⟩
theorem eg130:∀ args w,(callFunc 130 args).run Tryz.prog w=.ok (.enter 130 args) w:=enters_of Tryz.func130 (by kernel_rfl) rfl
theorem barring_any {B:Nat} {w:World} {gb:Nat} {x:GdV} {S:Sk.Sys} {K:List Int} {b:Nat} {st:Sk.St} {vL:Value} {N:Nat} {bs cs:Array Value} {may:Int->Bool} (h:Gnd B w gb x S K b st vL) (ok:Sk.Okay S) (v:Nat) (hv:v<S.V.length) (aT:Nat) (haT:aT<=1000000) (eg:∀ args w,(callFunc N args).run Tryz.prog w=.ok (.enter N args) w) (hA:∀ o ∈ st.L,0<=Sk.aAt st.A o/\Sk.aAt st.A o<=1000000) (hm:∀ o ∈ st.L,∀ W,Below w.heap.size w W->Calls Tryz.prog N (bs++#[.int .i64 o]++cs) W fun e W'=>e=.returned (.bool (may o))/\Below W.heap.size W W') :
  Calls Tryz.prog 106 #[.pointer (some ⟨gb,0,none⟩),.int .i64 (v:Int),.int .i64 (aT:Int),.func (.func N) bs cs] w fun e w'=>Below w.heap.size w w'/\((e=.returned (.tuple #[.int .i64 0,.bool false])/\∀ o ∈ st.L,Sk.bars S (Sk.spans S) may st.A (v:Int) (aT:Int) o=false)\/∃ o,o ∈ st.L/\Sk.bars S (Sk.spans S) may st.A (v:Int) (aT:Int) o=true/\e=.returned (.tuple #[.int .i64 o,.bool true])):=by
 have b0:Below w.heap.size w (w.alloc (.cells #[.pointer (some ⟨gb,0,none⟩)] 82 (0,0))):=(Below.refl _ _).alloc zL _;have b1:=b0.alloc b0.size (.cells #[.int .i64 (aT:Int)] 3 (0,0));have b2:=b1.alloc b1.size (.cells #[.func (.func N) bs cs] 74 (0,0));have kg:(((w.alloc (.cells #[.pointer (some ⟨gb,0,none⟩)] 82 (0,0))).alloc (.cells #[.int .i64 (aT:Int)] 3 (0,0))).alloc (.cells #[.func (.func N) bs cs] 74 (0,0))).heap[w.heap.size]?=some (.cells #[.pointer (some ⟨gb,0,none⟩)] 82 (0,0)):=(Below.heap_alloc _ _ _ (by simp;omega)).trans ((Below.heap_alloc _ _ _ (by simp)).trans (zJ w _));have ka:(((w.alloc (.cells #[.pointer (some ⟨gb,0,none⟩)] 82 (0,0))).alloc (.cells #[.int .i64 (aT:Int)] 3 (0,0))).alloc (.cells #[.func (.func N) bs cs] 74 (0,0))).heap[w.heap.size+1]?=some (.cells #[.int .i64 (aT:Int)] 3 (0,0)):=(Below.heap_alloc _ _ _ (by simp)).trans (by have:=zJ (w.alloc (.cells #[.pointer (some ⟨gb,0,none⟩)] 82 (0,0))) (.cells #[.int .i64 (aT:Int)] 3 (0,0));simpa using this);have km:(((w.alloc (.cells #[.pointer (some ⟨gb,0,none⟩)] 82 (0,0))).alloc (.cells #[.int .i64 (aT:Int)] 3 (0,0))).alloc (.cells #[.func (.func N) bs cs] 74 (0,0))).heap[w.heap.size+2]?=some (.cells #[.func (.func N) bs cs] 74 (0,0)):=by
  have:=zJ ((w.alloc (.cells #[.pointer (some ⟨gb,0,none⟩)] 82 (0,0))).alloc (.cells #[.int .i64 (aT:Int)] 3 (0,0))) (.cells #[.func (.func N) bs cs] 74 (0,0))
  simpa using this
 have HG:=zG (h.under b2);have HOK:=zG ok;have HA:=zG hA;have HM:=zG hm;have hvl:=ok.nV;have hcl:=Sk.ct_le ok (v:Int) (by omega) (by omega);have hvs:v<(Sk.spans S).length:=(by rw [h.spl];exact hv);have eS:(Sk.spAt (Sk.spans S) (v:Int)).1=((Sk.spans S)[v]).1:=by
  unfold Sk.spAt;rw [Int.toNat_natCast,List.getD_eq_getElem?_getD,List.getElem?_eq_getElem hvs];rfl
 have HFE:=zG eS;obtain ⟨cn,hcn⟩:=nmQ (Sk.ct S (v:Int));have HCN:=zG hcn;rw [<-hcn] at hcl;obtain ⟨fV,hfV⟩:=nmQ (((Sk.spans S)[v]).1);have HFV:=zG hfV;have cS:=((h.under b2).sp.at hvs).1;rw [<-hfV] at cS;obtain ⟨-,-,-,-,c4,-,-,-,-,c9⟩:=(h.under b2).gd.cells;obtain ⟨aL,cL,rfl,hcL1,hcL2⟩:=h.laid.form;obtain ⟨nL,hnL⟩:=nmQ (st.L.length);have HNL:=zG hnL;have hwd:=fun (W:World) (hW:Below (((w.alloc (.cells #[.pointer (some ⟨gb,0,none⟩)] 82 (0,0))).alloc (.cells #[.int .i64 (aT:Int)] 3 (0,0))).alloc (.cells #[.func (.func N) bs cs] 74 (0,0))).heap.size (((w.alloc (.cells #[.pointer (some ⟨gb,0,none⟩)] 82 (0,0))).alloc (.cells #[.int .i64 (aT:Int)] 3 (0,0))).alloc (.cells #[.func (.func N) bs cs] 74 (0,0))) W)=>xM (HG.out.under hW) ok v hv;rw [<-hcn] at hwd;have HWD:=zG hwd;clear b0 b1 hcn hfV eS ok hA hm h hwd hnL;go_enter Tryz.func106,Tryz.ntmps106;go_upto_region 1 with fail;generalize ((w.alloc (.cells #[.pointer (some ⟨gb,0,none⟩)] 82 (0,0))).alloc (.cells #[.int .i64 (aT:Int)] 3 (0,0))).alloc (.cells #[.func (.func N) bs cs] 74 (0,0))=w1 at b2 kg ka km HG cS c4 c9 HWD ⊢;have yG:=zH HG.out.gd;have yS:=HG.out.sp.lt;have g0:=coQ kg 0;have a0:=coQ ka 0;simp at g0 a0;have yg:=zH kg;have ya:=zH ka;go_cut [10,11] (fun v10 v11 wd=>∃ (pe pf:Nat),v10=.pointer (some ⟨pe,0,none⟩)/\v11=.pointer (some ⟨pf,0,none⟩)/\Hid (wd.heap[pe]?=some (.cells #[.int .i64 ((aT:Int)+(cn:Int))] 3 (0,0))/\wd.heap[pf]?=some (.cells #[.int .i64 fV] 3 (0,0)))/\Below w1.heap.size w1 wd)
 case first=>
  refine zK (fun w'=>Below w1.heap.size w1 w') (fun _=>false) (by kernel_rfl) ?_;have hH0:Below w1.heap.size w1 w1.drew:=(Below.refl _ _).drew;generalize w1.drew=wd0 at hH0 ⊢;refine' tkQ 0 13 hH0 ?hyv ?o1
  case hyv=>
   intro wz hSw;have zc0:=(hSw.cell (p:=⟨w.heap.size,0,none⟩) yg).trans g0;have zc1:=(hSw.cell (p:=⟨w.heap.size+1,0,none⟩) ya).trans a0;have zc2:=(hSw.cell (p:=⟨gb,4,none⟩) yG).trans c4;have zc3:=(hSw.cell (p:=⟨x.sg,v*2,none⟩) yS).trans cS;go_simp
   try rfl
  try simp only [Act.put,sT,sZ,sS]
  refine' tkQ 1 14 hH0 ?hyv ?o2
  case hyv=>
   intro wz hSw;have zc0:=(hSw.cell (p:=⟨w.heap.size,0,none⟩) yg).trans g0;have zc1:=(hSw.cell (p:=⟨w.heap.size+1,0,none⟩) ya).trans a0;have zc2:=(hSw.cell (p:=⟨gb,4,none⟩) yG).trans c4;have zc3:=(hSw.cell (p:=⟨x.sg,v*2,none⟩) yS).trans cS;go_simp
   try rfl
  try simp only [Act.put,sT,sZ,sS]
  refine' tkR 2 15 hH0 ?o3
  refine' tkQ 5 18 hH0 ?hyv ?o4
  case hyv=>
   intro wz hSw;have zc0:=(hSw.cell (p:=⟨w.heap.size,0,none⟩) yg).trans g0;have zc1:=(hSw.cell (p:=⟨w.heap.size+1,0,none⟩) ya).trans a0;have zc2:=(hSw.cell (p:=⟨gb,4,none⟩) yG).trans c4;have zc3:=(hSw.cell (p:=⟨x.sg,v*2,none⟩) yS).trans cS;go_simp
   try rfl
  try simp only [Act.put,sT,sZ,sS]
  refine' tkR 6 19 hH0 ?o5
  refine' tkR 7 20 hH0 ?o6
  refine' tkQ 8 21 hH0 ?hyv ?o7
  case hyv=>
   intro wz hSw;have zc0:=(hSw.cell (p:=⟨w.heap.size,0,none⟩) yg).trans g0;have zc1:=(hSw.cell (p:=⟨w.heap.size+1,0,none⟩) ya).trans a0;have zc2:=(hSw.cell (p:=⟨gb,4,none⟩) yG).trans c4;have zc3:=(hSw.cell (p:=⟨x.sg,v*2,none⟩) yS).trans cS;go_simp
   try rfl
  try simp only [Act.put,sT,sZ,sS]
  refine' tkR 9 22 hH0 ?o8
  refine' tkR 10 23 hH0 ?o9
  refine' tkR 11 24 hH0 ?o10
  refine' tkQ 12 25 hH0 ?hyv ?o11
  case hyv=>
   intro wz hSw;have zc0:=(hSw.cell (p:=⟨w.heap.size,0,none⟩) yg).trans g0;have zc1:=(hSw.cell (p:=⟨w.heap.size+1,0,none⟩) ya).trans a0;have zc2:=(hSw.cell (p:=⟨gb,4,none⟩) yG).trans c4;have zc3:=(hSw.cell (p:=⟨x.sg,v*2,none⟩) yS).trans cS;go_simp
   try rfl
  try simp only [Act.put,sT,sZ,sS]
  refine wpAnyL_three (i:=3) (j:=13) (k:=14) rfl rfl rfl (by kernel_rfl) (by rfl) (by rfl) (by rfl) (fun K hK=>?_) (fun K hK=>?_) (fun K hK=>?_) 
  case _=>
   go_simp;refine (HWD.out wd0 hH0).mono ?_;rintro eq wd1 ⟨rfl,bq1⟩;have hH1:Below w1.heap.size w1 wd1:=hH0.trans (bq1.mono hH0.size);refine hK.out _ _ (fun _=>hH1) ?_;clear hK K
   try simp only [Act.put,sT,sZ,sS]
   refine' zM (i:=4) (oi:=⟨some 17,_,_,_,_,_⟩) (v:=.int .i64 ((aT:Int)+(cn:Int))) rfl (by kernel_rfl) (by kernel_rfl) (by kernel_rfl) (by kernel_rfl) (fun _ _ _ h=>h) hH1 (by rfl) ?hyv ?o12
   case hyv=>
    intro wz hSw;go_simp;rw [i64_in _ ⟨by omega,by omega⟩]
   try simp only [Act.put,sT,sZ,sS]
   refine zZ (i:=13) (j:=14) rfl rfl (by kernel_rfl) (by rfl) (by rfl) (fun K hK=>?_) (fun K hK=>?_)
   case _=>
    go_simp;have hH2:Below w1.heap.size w1 (wd1.alloc (.cells #[.int .i64 0] 3 (0,0))):=hH1.alloc hH1.size _;have kn2:=zJ wd1 (.cells #[.int .i64 0] 3 (0,0));have zn2:=hH1.size;refine hK.out _ _ (fun _=>hH2) ?_;clear hK K
    try simp only [Act.put,sT,sZ,sS]
    generalize wd1.alloc (.cells #[.int .i64 0] 3 (0,0))=wd2 at hH2 kn2 ⊢;refine tnQ 14 (fun K hK=>?_);go_simp;have hH3:Below w1.heap.size w1 (wd2.alloc (.cells #[.int .i64 0] 3 (0,0))):=hH2.alloc hH2.size _;have kn3:=zJ wd2 (.cells #[.int .i64 0] 3 (0,0));have zn3:=hH2.size;refine hK.out _ _ (fun _=>hH3) ?_;clear hK K
    try simp only [Act.put,sT,sZ,sS]
    have ne3_kn2:=zH kn2;have kn2_3:=(Below.heap_alloc wd2 (.cells #[.int .i64 0] 3 (0,0)) _ (zH kn2)).trans kn2;generalize wd2.alloc (.cells #[.int .i64 0] 3 (0,0))=wd3 at hH3 kn3 kn2_3 ⊢;refine tnQ 15 (fun K hK=>?_);have st_:=coQ kn2_3 0;have ff_:=foQ kn2_3 0;simp at st_;have hH4:Below w1.heap.size w1 (wd3.setCell ⟨wd1.heap.size,0,none⟩ (.int .i64 ((aT:Int)+(cn:Int)))):=hH3.trans ((Below.refl _ _).setCell (p:=⟨wd1.heap.size,0,none⟩) zn2 (.int .i64 ((aT:Int)+(cn:Int))));have kn2_4:(wd3.setCell ⟨wd1.heap.size,0,none⟩ (.int .i64 ((aT:Int)+(cn:Int)))).heap[wd1.heap.size]?=some (.cells #[.int .i64 ((aT:Int)+(cn:Int))] 3 (0,0)):=(by have h5:=zO kn2_3 0 (.int .i64 ((aT:Int)+(cn:Int)));simpa using h5);have kn3_4:=zN kn3 (p:=⟨wd1.heap.size,0,none⟩) (by show wd1.heap.size≠_;omega) (.int .i64 ((aT:Int)+(cn:Int)));go_simp;refine hK.out _ _ (fun _=>hH4) ?_;clear hK K
    try simp only [Act.put,sT,sZ,sS]
    clear st_ ff_;generalize wd3.setCell ⟨wd1.heap.size,0,none⟩ (.int .i64 ((aT:Int)+(cn:Int)))=wd4 at hH4 kn2_4 kn3_4 ⊢;refine tnQ 16 (fun K hK=>?_);have st_:=coQ kn3_4 0;have ff_:=foQ kn3_4 0;simp at st_;have hH5:Below w1.heap.size w1 (wd4.setCell ⟨wd2.heap.size,0,none⟩ (.int .i64 fV)):=hH4.trans ((Below.refl _ _).setCell (p:=⟨wd2.heap.size,0,none⟩) zn3 (.int .i64 fV));have kn2_5:=zN kn2_4 (p:=⟨wd2.heap.size,0,none⟩) (by show wd2.heap.size≠_;omega) (.int .i64 fV);have kn3_5:(wd4.setCell ⟨wd2.heap.size,0,none⟩ (.int .i64 fV)).heap[wd2.heap.size]?=some (.cells #[.int .i64 fV] 3 (0,0)):=(by have h5:=zO kn3_4 0 (.int .i64 fV);simpa using h5);go_simp;refine hK.out _ _ (fun _=>hH5) ?_;clear hK K
    try simp only [Act.put,sT,sZ,sS]
    clear st_ ff_;generalize wd4.setCell ⟨wd2.heap.size,0,none⟩ (.int .i64 fV)=wd5 at hH5 kn2_5 kn3_5 ⊢;refine zI (by kernel_rfl) ?_ _;go_wp2_with fail;go_meet
    case rel=>exact ⟨wd1.heap.size,wd2.heap.size,rfl,rfl,zG ⟨kn2_5,kn3_5⟩,hH5⟩
   case _=>
    go_simp;have hH2:Below w1.heap.size w1 (wd1.alloc (.cells #[.int .i64 0] 3 (0,0))):=hH1.alloc hH1.size _;have kn2:=zJ wd1 (.cells #[.int .i64 0] 3 (0,0));have zn2:=hH1.size;refine hK.out _ _ (fun _=>hH2) ?_;clear hK K
    try simp only [Act.put,sT,sZ,sS]
    generalize wd1.alloc (.cells #[.int .i64 0] 3 (0,0))=wd2 at hH2 kn2 ⊢;refine tnQ 13 (fun K hK=>?_);go_simp;have hH3:Below w1.heap.size w1 (wd2.alloc (.cells #[.int .i64 0] 3 (0,0))):=hH2.alloc hH2.size _;have kn3:=zJ wd2 (.cells #[.int .i64 0] 3 (0,0));have zn3:=hH2.size;refine hK.out _ _ (fun _=>hH3) ?_;clear hK K
    try simp only [Act.put,sT,sZ,sS]
    have ne3_kn2:=zH kn2;have kn2_3:=(Below.heap_alloc wd2 (.cells #[.int .i64 0] 3 (0,0)) _ (zH kn2)).trans kn2;generalize wd2.alloc (.cells #[.int .i64 0] 3 (0,0))=wd3 at hH3 kn3 kn2_3 ⊢;refine tnQ 15 (fun K hK=>?_);have st_:=coQ kn3 0;have ff_:=foQ kn3 0;simp at st_;have hH4:Below w1.heap.size w1 (wd3.setCell ⟨wd2.heap.size,0,none⟩ (.int .i64 ((aT:Int)+(cn:Int)))):=hH3.trans ((Below.refl _ _).setCell (p:=⟨wd2.heap.size,0,none⟩) zn3 (.int .i64 ((aT:Int)+(cn:Int))));have kn2_4:=zN kn2_3 (p:=⟨wd2.heap.size,0,none⟩) (by show wd2.heap.size≠_;omega) (.int .i64 ((aT:Int)+(cn:Int)));have kn3_4:(wd3.setCell ⟨wd2.heap.size,0,none⟩ (.int .i64 ((aT:Int)+(cn:Int)))).heap[wd2.heap.size]?=some (.cells #[.int .i64 ((aT:Int)+(cn:Int))] 3 (0,0)):=(by have h5:=zO kn3 0 (.int .i64 ((aT:Int)+(cn:Int)));simpa using h5);go_simp;refine hK.out _ _ (fun _=>hH4) ?_;clear hK K
    try simp only [Act.put,sT,sZ,sS]
    clear st_ ff_;generalize wd3.setCell ⟨wd2.heap.size,0,none⟩ (.int .i64 ((aT:Int)+(cn:Int)))=wd4 at hH4 kn2_4 kn3_4 ⊢;refine tnQ 16 (fun K hK=>?_);have st_:=coQ kn2_4 0;have ff_:=foQ kn2_4 0;simp at st_;have hH5:Below w1.heap.size w1 (wd4.setCell ⟨wd1.heap.size,0,none⟩ (.int .i64 fV)):=hH4.trans ((Below.refl _ _).setCell (p:=⟨wd1.heap.size,0,none⟩) zn2 (.int .i64 fV));have kn2_5:(wd4.setCell ⟨wd1.heap.size,0,none⟩ (.int .i64 fV)).heap[wd1.heap.size]?=some (.cells #[.int .i64 fV] 3 (0,0)):=(by have h5:=zO kn2_4 0 (.int .i64 fV);simpa using h5);have kn3_5:=zN kn3_4 (p:=⟨wd1.heap.size,0,none⟩) (by show wd1.heap.size≠_;omega) (.int .i64 fV);go_simp;refine hK.out _ _ (fun _=>hH5) ?_;clear hK K
    try simp only [Act.put,sT,sZ,sS]
    clear st_ ff_;generalize wd4.setCell ⟨wd1.heap.size,0,none⟩ (.int .i64 fV)=wd5 at hH5 kn2_5 kn3_5 ⊢;refine zI (by kernel_rfl) ?_ _;go_wp2_with fail;go_meet
    case rel=>exact ⟨wd2.heap.size,wd1.heap.size,rfl,rfl,zG ⟨kn3_5,kn2_5⟩,hH5⟩
  case _=>
   go_simp;have hH1:Below w1.heap.size w1 (wd0.alloc (.cells #[.int .i64 0] 3 (0,0))):=hH0.alloc hH0.size _;have kn1:=zJ wd0 (.cells #[.int .i64 0] 3 (0,0));have zn1:=hH0.size;refine hK.out _ _ (fun _=>hH1) ?_;clear hK K
   try simp only [Act.put,sT,sZ,sS]
   generalize wd0.alloc (.cells #[.int .i64 0] 3 (0,0))=wd1 at hH1 kn1 ⊢;refine zZ (i:=3) (j:=14) rfl rfl (by kernel_rfl) (by rfl) (by rfl) (fun K hK=>?_) (fun K hK=>?_)
   case _=>
    go_simp;refine (HWD.out wd1 hH1).mono ?_;rintro eq wd2 ⟨rfl,bq2⟩;have kn1_2:=(bq2.block _ (zH kn1)).trans kn1;have hH2:Below w1.heap.size w1 wd2:=hH1.trans (bq2.mono hH1.size);refine hK.out _ _ (fun _=>hH2) ?_;clear hK K
    try simp only [Act.put,sT,sZ,sS]
    refine' zM (i:=4) (oi:=⟨some 17,_,_,_,_,_⟩) (v:=.int .i64 ((aT:Int)+(cn:Int))) rfl (by kernel_rfl) (by kernel_rfl) (by kernel_rfl) (by kernel_rfl) (fun _ _ _ h=>h) hH2 (by rfl) ?hyv ?o13
    case hyv=>
     intro wz hSw;go_simp;rw [i64_in _ ⟨by omega,by omega⟩]
    try simp only [Act.put,sT,sZ,sS]
    refine tnQ 14 (fun K hK=>?_);go_simp;have hH3:Below w1.heap.size w1 (wd2.alloc (.cells #[.int .i64 0] 3 (0,0))):=hH2.alloc hH2.size _;have kn3:=zJ wd2 (.cells #[.int .i64 0] 3 (0,0));have zn3:=hH2.size;refine hK.out _ _ (fun _=>hH3) ?_;clear hK K
    try simp only [Act.put,sT,sZ,sS]
    have ne3_kn1:=zH kn1_2;have kn1_3:=(Below.heap_alloc wd2 (.cells #[.int .i64 0] 3 (0,0)) _ (zH kn1_2)).trans kn1_2;generalize wd2.alloc (.cells #[.int .i64 0] 3 (0,0))=wd3 at hH3 kn3 kn1_3 ⊢;refine tnQ 15 (fun K hK=>?_);have st_:=coQ kn1_3 0;have ff_:=foQ kn1_3 0;simp at st_;have hH4:Below w1.heap.size w1 (wd3.setCell ⟨wd0.heap.size,0,none⟩ (.int .i64 ((aT:Int)+(cn:Int)))):=hH3.trans ((Below.refl _ _).setCell (p:=⟨wd0.heap.size,0,none⟩) zn1 (.int .i64 ((aT:Int)+(cn:Int))));have kn1_4:(wd3.setCell ⟨wd0.heap.size,0,none⟩ (.int .i64 ((aT:Int)+(cn:Int)))).heap[wd0.heap.size]?=some (.cells #[.int .i64 ((aT:Int)+(cn:Int))] 3 (0,0)):=(by have h5:=zO kn1_3 0 (.int .i64 ((aT:Int)+(cn:Int)));simpa using h5);have kn3_4:=zN kn3 (p:=⟨wd0.heap.size,0,none⟩) (by show wd0.heap.size≠_;omega) (.int .i64 ((aT:Int)+(cn:Int)));go_simp;refine hK.out _ _ (fun _=>hH4) ?_;clear hK K
    try simp only [Act.put,sT,sZ,sS]
    clear st_ ff_;generalize wd3.setCell ⟨wd0.heap.size,0,none⟩ (.int .i64 ((aT:Int)+(cn:Int)))=wd4 at hH4 kn1_4 kn3_4 ⊢;refine tnQ 16 (fun K hK=>?_);have st_:=coQ kn3_4 0;have ff_:=foQ kn3_4 0;simp at st_;have hH5:Below w1.heap.size w1 (wd4.setCell ⟨wd2.heap.size,0,none⟩ (.int .i64 fV)):=hH4.trans ((Below.refl _ _).setCell (p:=⟨wd2.heap.size,0,none⟩) zn3 (.int .i64 fV));have kn1_5:=zN kn1_4 (p:=⟨wd2.heap.size,0,none⟩) (by show wd2.heap.size≠_;omega) (.int .i64 fV);have kn3_5:(wd4.setCell ⟨wd2.heap.size,0,none⟩ (.int .i64 fV)).heap[wd2.heap.size]?=some (.cells #[.int .i64 fV] 3 (0,0)):=(by have h5:=zO kn3_4 0 (.int .i64 fV);simpa using h5);go_simp;refine hK.out _ _ (fun _=>hH5) ?_;clear hK K
    try simp only [Act.put,sT,sZ,sS]
    clear st_ ff_;generalize wd4.setCell ⟨wd2.heap.size,0,none⟩ (.int .i64 fV)=wd5 at hH5 kn1_5 kn3_5 ⊢;refine zI (by kernel_rfl) ?_ _;go_wp2_with fail;go_meet
    case rel=>exact ⟨wd0.heap.size,wd2.heap.size,rfl,rfl,zG ⟨kn1_5,kn3_5⟩,hH5⟩
   case _=>
    go_simp;have hH2:Below w1.heap.size w1 (wd1.alloc (.cells #[.int .i64 0] 3 (0,0))):=hH1.alloc hH1.size _;have kn2:=zJ wd1 (.cells #[.int .i64 0] 3 (0,0));have zn2:=hH1.size;refine hK.out _ _ (fun _=>hH2) ?_;clear hK K
    try simp only [Act.put,sT,sZ,sS]
    have ne2_kn1:=zH kn1;have kn1_2:=(Below.heap_alloc wd1 (.cells #[.int .i64 0] 3 (0,0)) _ (zH kn1)).trans kn1;generalize wd1.alloc (.cells #[.int .i64 0] 3 (0,0))=wd2 at hH2 kn2 kn1_2 ⊢;refine tnQ 3 (fun K hK=>?_);go_simp;refine (HWD.out wd2 hH2).mono ?_;rintro eq wd3 ⟨rfl,bq3⟩;have kn1_3:=(bq3.block _ (zH kn1_2)).trans kn1_2;have kn2_3:=(bq3.block _ (zH kn2)).trans kn2;have hH3:Below w1.heap.size w1 wd3:=hH2.trans (bq3.mono hH2.size);refine hK.out _ _ (fun _=>hH3) ?_;clear hK K
    try simp only [Act.put,sT,sZ,sS]
    refine' zM (i:=4) (oi:=⟨some 17,_,_,_,_,_⟩) (v:=.int .i64 ((aT:Int)+(cn:Int))) rfl (by kernel_rfl) (by kernel_rfl) (by kernel_rfl) (by kernel_rfl) (fun _ _ _ h=>h) hH3 (by rfl) ?hyv ?o14
    case hyv=>
     intro wz hSw;go_simp;rw [i64_in _ ⟨by omega,by omega⟩]
    try simp only [Act.put,sT,sZ,sS]
    refine tnQ 15 (fun K hK=>?_);have st_:=coQ kn1_3 0;have ff_:=foQ kn1_3 0;simp at st_;have hH4:Below w1.heap.size w1 (wd3.setCell ⟨wd0.heap.size,0,none⟩ (.int .i64 ((aT:Int)+(cn:Int)))):=hH3.trans ((Below.refl _ _).setCell (p:=⟨wd0.heap.size,0,none⟩) zn1 (.int .i64 ((aT:Int)+(cn:Int))));have kn1_4:(wd3.setCell ⟨wd0.heap.size,0,none⟩ (.int .i64 ((aT:Int)+(cn:Int)))).heap[wd0.heap.size]?=some (.cells #[.int .i64 ((aT:Int)+(cn:Int))] 3 (0,0)):=(by have h5:=zO kn1_3 0 (.int .i64 ((aT:Int)+(cn:Int)));simpa using h5);have kn2_4:=zN kn2_3 (p:=⟨wd0.heap.size,0,none⟩) (by show wd0.heap.size≠_;omega) (.int .i64 ((aT:Int)+(cn:Int)));go_simp;refine hK.out _ _ (fun _=>hH4) ?_;clear hK K
    try simp only [Act.put,sT,sZ,sS]
    clear st_ ff_;generalize wd3.setCell ⟨wd0.heap.size,0,none⟩ (.int .i64 ((aT:Int)+(cn:Int)))=wd4 at hH4 kn1_4 kn2_4 ⊢;refine tnQ 16 (fun K hK=>?_);have st_:=coQ kn2_4 0;have ff_:=foQ kn2_4 0;simp at st_;have hH5:Below w1.heap.size w1 (wd4.setCell ⟨wd1.heap.size,0,none⟩ (.int .i64 fV)):=hH4.trans ((Below.refl _ _).setCell (p:=⟨wd1.heap.size,0,none⟩) zn2 (.int .i64 fV));have kn1_5:=zN kn1_4 (p:=⟨wd1.heap.size,0,none⟩) (by show wd1.heap.size≠_;omega) (.int .i64 fV);have kn2_5:(wd4.setCell ⟨wd1.heap.size,0,none⟩ (.int .i64 fV)).heap[wd1.heap.size]?=some (.cells #[.int .i64 fV] 3 (0,0)):=(by have h5:=zO kn2_4 0 (.int .i64 fV);simpa using h5);go_simp;refine hK.out _ _ (fun _=>hH5) ?_;clear hK K
    try simp only [Act.put,sT,sZ,sS]
    clear st_ ff_;generalize wd4.setCell ⟨wd1.heap.size,0,none⟩ (.int .i64 fV)=wd5 at hH5 kn1_5 kn2_5 ⊢;refine zI (by kernel_rfl) ?_ _;go_wp2_with fail;go_meet
    case rel=>exact ⟨wd0.heap.size,wd1.heap.size,rfl,rfl,zG ⟨kn1_5,kn2_5⟩,hH5⟩
  case _=>
   go_simp;have hH1:Below w1.heap.size w1 (wd0.alloc (.cells #[.int .i64 0] 3 (0,0))):=hH0.alloc hH0.size _;have kn1:=zJ wd0 (.cells #[.int .i64 0] 3 (0,0));have zn1:=hH0.size;refine hK.out _ _ (fun _=>hH1) ?_;clear hK K
   try simp only [Act.put,sT,sZ,sS]
   generalize wd0.alloc (.cells #[.int .i64 0] 3 (0,0))=wd1 at hH1 kn1 ⊢;refine zZ (i:=3) (j:=13) rfl rfl (by kernel_rfl) (by rfl) (by rfl) (fun K hK=>?_) (fun K hK=>?_)
   case _=>
    go_simp;refine (HWD.out wd1 hH1).mono ?_;rintro eq wd2 ⟨rfl,bq2⟩;have kn1_2:=(bq2.block _ (zH kn1)).trans kn1;have hH2:Below w1.heap.size w1 wd2:=hH1.trans (bq2.mono hH1.size);refine hK.out _ _ (fun _=>hH2) ?_;clear hK K
    try simp only [Act.put,sT,sZ,sS]
    refine' zM (i:=4) (oi:=⟨some 17,_,_,_,_,_⟩) (v:=.int .i64 ((aT:Int)+(cn:Int))) rfl (by kernel_rfl) (by kernel_rfl) (by kernel_rfl) (by kernel_rfl) (fun _ _ _ h=>h) hH2 (by rfl) ?hyv ?o15
    case hyv=>
     intro wz hSw;go_simp;rw [i64_in _ ⟨by omega,by omega⟩]
    try simp only [Act.put,sT,sZ,sS]
    refine tnQ 13 (fun K hK=>?_);go_simp;have hH3:Below w1.heap.size w1 (wd2.alloc (.cells #[.int .i64 0] 3 (0,0))):=hH2.alloc hH2.size _;have kn3:=zJ wd2 (.cells #[.int .i64 0] 3 (0,0));have zn3:=hH2.size;refine hK.out _ _ (fun _=>hH3) ?_;clear hK K
    try simp only [Act.put,sT,sZ,sS]
    have ne3_kn1:=zH kn1_2;have kn1_3:=(Below.heap_alloc wd2 (.cells #[.int .i64 0] 3 (0,0)) _ (zH kn1_2)).trans kn1_2;generalize wd2.alloc (.cells #[.int .i64 0] 3 (0,0))=wd3 at hH3 kn3 kn1_3 ⊢;refine tnQ 15 (fun K hK=>?_);have st_:=coQ kn3 0;have ff_:=foQ kn3 0;simp at st_;have hH4:Below w1.heap.size w1 (wd3.setCell ⟨wd2.heap.size,0,none⟩ (.int .i64 ((aT:Int)+(cn:Int)))):=hH3.trans ((Below.refl _ _).setCell (p:=⟨wd2.heap.size,0,none⟩) zn3 (.int .i64 ((aT:Int)+(cn:Int))));have kn1_4:=zN kn1_3 (p:=⟨wd2.heap.size,0,none⟩) (by show wd2.heap.size≠_;omega) (.int .i64 ((aT:Int)+(cn:Int)));have kn3_4:(wd3.setCell ⟨wd2.heap.size,0,none⟩ (.int .i64 ((aT:Int)+(cn:Int)))).heap[wd2.heap.size]?=some (.cells #[.int .i64 ((aT:Int)+(cn:Int))] 3 (0,0)):=(by have h5:=zO kn3 0 (.int .i64 ((aT:Int)+(cn:Int)));simpa using h5);go_simp;refine hK.out _ _ (fun _=>hH4) ?_;clear hK K
    try simp only [Act.put,sT,sZ,sS]
    clear st_ ff_;generalize wd3.setCell ⟨wd2.heap.size,0,none⟩ (.int .i64 ((aT:Int)+(cn:Int)))=wd4 at hH4 kn1_4 kn3_4 ⊢;refine tnQ 16 (fun K hK=>?_);have st_:=coQ kn1_4 0;have ff_:=foQ kn1_4 0;simp at st_;have hH5:Below w1.heap.size w1 (wd4.setCell ⟨wd0.heap.size,0,none⟩ (.int .i64 fV)):=hH4.trans ((Below.refl _ _).setCell (p:=⟨wd0.heap.size,0,none⟩) zn1 (.int .i64 fV));have kn1_5:(wd4.setCell ⟨wd0.heap.size,0,none⟩ (.int .i64 fV)).heap[wd0.heap.size]?=some (.cells #[.int .i64 fV] 3 (0,0)):=(by have h5:=zO kn1_4 0 (.int .i64 fV);simpa using h5);have kn3_5:=zN kn3_4 (p:=⟨wd0.heap.size,0,none⟩) (by show wd0.heap.size≠_;omega) (.int .i64 fV);go_simp;refine hK.out _ _ (fun _=>hH5) ?_;clear hK K
    try simp only [Act.put,sT,sZ,sS]
    clear st_ ff_;generalize wd4.setCell ⟨wd0.heap.size,0,none⟩ (.int .i64 fV)=wd5 at hH5 kn1_5 kn3_5 ⊢;refine zI (by kernel_rfl) ?_ _;go_wp2_with fail;go_meet
    case rel=>exact ⟨wd2.heap.size,wd0.heap.size,rfl,rfl,zG ⟨kn3_5,kn1_5⟩,hH5⟩
   case _=>
    go_simp;have hH2:Below w1.heap.size w1 (wd1.alloc (.cells #[.int .i64 0] 3 (0,0))):=hH1.alloc hH1.size _;have kn2:=zJ wd1 (.cells #[.int .i64 0] 3 (0,0));have zn2:=hH1.size;refine hK.out _ _ (fun _=>hH2) ?_;clear hK K
    try simp only [Act.put,sT,sZ,sS]
    have ne2_kn1:=zH kn1;have kn1_2:=(Below.heap_alloc wd1 (.cells #[.int .i64 0] 3 (0,0)) _ (zH kn1)).trans kn1;generalize wd1.alloc (.cells #[.int .i64 0] 3 (0,0))=wd2 at hH2 kn2 kn1_2 ⊢;refine tnQ 3 (fun K hK=>?_);go_simp;refine (HWD.out wd2 hH2).mono ?_;rintro eq wd3 ⟨rfl,bq3⟩;have kn1_3:=(bq3.block _ (zH kn1_2)).trans kn1_2;have kn2_3:=(bq3.block _ (zH kn2)).trans kn2;have hH3:Below w1.heap.size w1 wd3:=hH2.trans (bq3.mono hH2.size);refine hK.out _ _ (fun _=>hH3) ?_;clear hK K
    try simp only [Act.put,sT,sZ,sS]
    refine' zM (i:=4) (oi:=⟨some 17,_,_,_,_,_⟩) (v:=.int .i64 ((aT:Int)+(cn:Int))) rfl (by kernel_rfl) (by kernel_rfl) (by kernel_rfl) (by kernel_rfl) (fun _ _ _ h=>h) hH3 (by rfl) ?hyv ?o16
    case hyv=>
     intro wz hSw;go_simp;rw [i64_in _ ⟨by omega,by omega⟩]
    try simp only [Act.put,sT,sZ,sS]
    refine tnQ 15 (fun K hK=>?_);have st_:=coQ kn2_3 0;have ff_:=foQ kn2_3 0;simp at st_;have hH4:Below w1.heap.size w1 (wd3.setCell ⟨wd1.heap.size,0,none⟩ (.int .i64 ((aT:Int)+(cn:Int)))):=hH3.trans ((Below.refl _ _).setCell (p:=⟨wd1.heap.size,0,none⟩) zn2 (.int .i64 ((aT:Int)+(cn:Int))));have kn1_4:=zN kn1_3 (p:=⟨wd1.heap.size,0,none⟩) (by show wd1.heap.size≠_;omega) (.int .i64 ((aT:Int)+(cn:Int)));have kn2_4:(wd3.setCell ⟨wd1.heap.size,0,none⟩ (.int .i64 ((aT:Int)+(cn:Int)))).heap[wd1.heap.size]?=some (.cells #[.int .i64 ((aT:Int)+(cn:Int))] 3 (0,0)):=(by have h5:=zO kn2_3 0 (.int .i64 ((aT:Int)+(cn:Int)));simpa using h5);go_simp;refine hK.out _ _ (fun _=>hH4) ?_;clear hK K
    try simp only [Act.put,sT,sZ,sS]
    clear st_ ff_;generalize wd3.setCell ⟨wd1.heap.size,0,none⟩ (.int .i64 ((aT:Int)+(cn:Int)))=wd4 at hH4 kn1_4 kn2_4 ⊢;refine tnQ 16 (fun K hK=>?_);have st_:=coQ kn1_4 0;have ff_:=foQ kn1_4 0;simp at st_;have hH5:Below w1.heap.size w1 (wd4.setCell ⟨wd0.heap.size,0,none⟩ (.int .i64 fV)):=hH4.trans ((Below.refl _ _).setCell (p:=⟨wd0.heap.size,0,none⟩) zn1 (.int .i64 fV));have kn1_5:(wd4.setCell ⟨wd0.heap.size,0,none⟩ (.int .i64 fV)).heap[wd0.heap.size]?=some (.cells #[.int .i64 fV] 3 (0,0)):=(by have h5:=zO kn1_4 0 (.int .i64 fV);simpa using h5);have kn2_5:=zN kn2_4 (p:=⟨wd0.heap.size,0,none⟩) (by show wd0.heap.size≠_;omega) (.int .i64 fV);go_simp;refine hK.out _ _ (fun _=>hH5) ?_;clear hK K
    try simp only [Act.put,sT,sZ,sS]
    clear st_ ff_;generalize wd4.setCell ⟨wd0.heap.size,0,none⟩ (.int .i64 fV)=wd5 at hH5 kn1_5 kn2_5 ⊢;refine zI (by kernel_rfl) ?_ _;go_wp2_with fail;go_meet
    case rel=>exact ⟨wd1.heap.size,wd0.heap.size,rfl,rfl,zG ⟨kn2_5,kn1_5⟩,hH5⟩
 case rest=>
  obtain ⟨pe,pf,rfl,rfl,HP,bc⟩:=hcut;obtain ⟨ke,kf⟩:=HP.out;have kg2:=(bc.block _ yg).trans kg;have ka2:=(bc.block _ ya).trans ka;have km2:=(bc.block _ (zH km)).trans km;have HG2:=zG (HG.out.under bc);have B2:=b2.trans (bc.mono b2.size);have g0x:=(bc.cell (p:=⟨w.heap.size,0,none⟩) yg).trans g0;have c9x:=(bc.cell (p:=⟨gb,9,none⟩) yG).trans c9;have hix:=jM (N:=130) (bs:=#[]) (cs:=#[.pointer (some ⟨w.heap.size,0,none⟩),.pointer (some ⟨pe,0,none⟩),.pointer (some ⟨w.heap.size+1,0,none⟩),.pointer (some ⟨pf,0,none⟩),.pointer (some ⟨w.heap.size+2,0,none⟩)]) (p:=fun o=>Sk.bars S (Sk.spans S) may st.A (v:Int) (aT:Int) o) eg130 (zU HG2.out.laid.row) (fun o ho W hW=>by
   have hin:=HG2.out.lin o ho;obtain ⟨z,rfl⟩:∃ z:Nat,o=(z:Int):=⟨o.toNat,by omega⟩;have key:=bar130_any (HG2.out.under hW) HOK.out ((hW.block _ (zH kg2)).trans kg2) ((hW.block _ (zH ke)).trans ke) ((hW.block _ (zH ka2)).trans ka2) ((hW.block _ (zH kf)).trans kf) ((hW.block _ (zH km2)).trans km2) eg z (by omega) (HA.out _ ho) (q5:=may (z:Int)) (fun V hV=>HM.out _ ho V (B2.trans ((hW.trans (hV.mono hW.size)).mono B2.size)));unfold Sk.bars;rw [HFE.out,<-HFV.out,<-HCN.out]
   simpa using key)
  have hcs:=Sk.idx_cases (fun o=>Sk.bars S (Sk.spans S) may st.A (v:Int) (aT:Int) o) st.L 0;generalize Sk.idxI (fun o=>Sk.bars S (Sk.spans S) may st.A (v:Int) (aT:Int) o) 0 st.L=R at hix hcs;have HCS:=zG hcs;have Q0:=HG2.out.laid;have HLD:=zG Q0;rw [<-HNL.out] at hix c9x;clear hcs Q0 cS c4 c9 g0 a0 HWD kg ka km HP ke kf kg2 ka2 km2 HM HA;go_wp2_with fail;refine hix.mono ?_;rintro e w4 ⟨rfl,b4⟩;have B4:=B2.trans (b4.mono B2.size);have g0y:=(b4.cell (p:=⟨w.heap.size,0,none⟩) (Nat.lt_of_lt_of_le yg bc.size)).trans g0x;have c9y:=(b4.cell (p:=⟨gb,9,none⟩) (Nat.lt_of_lt_of_le yG bc.size)).trans c9x;clear hix g0x c9x;rcases HCS.out with ⟨h1,h2⟩ | ⟨k,hk,h1,-,h2⟩
  ·have HAL:=zG h1
   clear h1 HCS;subst h2;go_wp2
   go_ret2
   exact ⟨B4,.inl ⟨rfl,HAL.out⟩⟩
  ·have HTR:=zG h1
   clear h1 HCS;rw [Nat.zero_add] at h2;subst h2;obtain ⟨ao,cp,ev,q1,q2,hat⟩:=(zU (HLD.out.below b4).row).at;injection ev with e1 e2 e3;obtain ⟨bb,oo,eb,yb,cb⟩:=hat k hk;rw [eb] at e1;subst e1;have HEL:=zG (List.getElem_mem hk);generalize st.L[k]=z at cb HTR HEL;have hkn:k<nL:=(by rw [HNL.out];exact hk);clear hat e2 e3 eb q1 q2 hk;go_wp2
   go_ret2
   exact ⟨B4,.inr ⟨z,HEL.out,HTR.out,rfl⟩⟩
end Go.Proofs.YtegakbobaecdlaaGreatDoor
