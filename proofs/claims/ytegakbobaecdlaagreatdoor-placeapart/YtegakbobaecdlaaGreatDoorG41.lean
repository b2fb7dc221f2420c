import Derived.Test.YtegakbobaecdlaaGreatDoorG40
set_option linter.unusedVariables false
set_option linter.unusedSimpArgs false
set_option maxHeartbeats 64000000
set_option maxRecDepth 100000
namespace Go.Proofs.YtegakbobaecdlaaGreatDoor
open Go.RowKit Go.IntWalk
theorem behind_any {B:Nat} {w:World} {gb:Nat} {x:GdV} {S:Sk.Sys} {KL:List Int} {b:Nat} {st:Sk.St} {vL:Value} {N:Nat} {bs cs:Array Value} {q5:Bool} (h:Gnd B w gb x S KL b st vL) (ok:Sk.Okay S) (o:Nat) (ho:o<S.V.length) (aT:Int) (eg:∀ args w,(callFunc N args).run Tryz.prog w=.ok (.enter N args) w) (hA:0<=Sk.aAt st.A (o:Int)/\Sk.aAt st.A (o:Int)<=1000000) (hm:∀ W,Below w.heap.size w W->Calls Tryz.prog N (bs++#[.int .i64 (o:Int)]++cs) W fun e W'=>e=.returned (.bool q5)/\Below W.heap.size W W') :
  Calls Tryz.prog 107 #[.pointer (some ⟨gb,0,none⟩),.int .i64 (o:Int),.int .i64 aT,.func (.func N) bs cs] w fun e w'=>e=.returned (.int .i64 (if aT<Sk.aAt st.A (o:Int)/\q5=true then Sk.aAt st.A (o:Int) else Sk.aAt st.A (o:Int)+Sk.ct S (o:Int)))/\Below w.heap.size w w':=by
 obtain ⟨aV,cV,aI,cI,aO,cO,aR,cR,sg,ga,gk⟩:=x;obtain ⟨-,-,-,-,-,c5,-,-,-,-⟩:=h.gd.cells
 dsimp only at c5
 have hoa:o<st.A.length:=(by rw [h.la];exact ho);have cA:=h.at_.at hoa
 dsimp only at cA
 have eA:Sk.aAt st.A (o:Int)=st.A[o]:=by
  unfold Sk.aAt;rw [Int.toNat_natCast,List.getD_eq_getElem?_getD,List.getElem?_eq_getElem hoa];rfl
 rw [<-eA] at cA;have hcl:=Sk.ct_le ok (o:Int) (by omega) (by omega);have HW:=zG (fun (W:World) (hW:Below w.heap.size w W)=>xM (h.under hW) ok o ho);obtain ⟨cn,hcn⟩:=nmQ (Sk.ct S (o:Int));rw [<-hcn] at hcl HW ⊢;generalize Sk.aAt st.A (o:Int)=sA at cA hA ⊢;have hA1:=hA.1;have hA2:=hA.2;have hvl:S.V.length<=400:=ok.nV;have HM:=zG hm;have HWR:=zG (show IntKind.i64.wrap (sA+(cn:Int))=sA+(cn:Int) from i64_in _ ⟨by omega,by omega⟩);clear hcn eA h ok hm hA;by_cases hlt:aT<sA
 case neg=>
  rw [if_neg (fun q=>hlt q.1)];have hw:=HW.out w (Below.refl _ _);go_enter Tryz.func107,Tryz.ntmps107;go_wp2_with fail;refine hw.mono ?_;rintro e w2 ⟨rfl,b2⟩;clear hw;go_wp2;go_ret;exact ⟨by simp [HWR.out],b2⟩
 case pos=>
  have hm0:=HM.out w (Below.refl _ _)
  cases q5
  case true=>
   rw [if_pos ⟨hlt,rfl⟩];go_enter Tryz.func107,Tryz.ntmps107;go_wp2_with fail;refine hm0.mono ?_;rintro e w2 ⟨rfl,b2⟩;clear hm0;go_wp2;go_ret;exact ⟨rfl,b2⟩
  case false=>
   rw [if_neg (fun q=>by cases q.2)];go_enter Tryz.func107,Tryz.ntmps107;go_wp2_with fail;refine hm0.mono ?_;rintro e w2 ⟨rfl,b2⟩;have hw:=HW.out w2 b2;clear hm0;go_wp2_with fail;refine hw.mono ?_;rintro e w3 ⟨rfl,b3⟩;clear hw;go_wp2;go_ret;exact ⟨by simp [HWR.out],b2.trans (b3.mono b2.size)⟩
theorem bars_true {S:Sk.Sys} {l:List Sk.Sp} {may:Int->Bool} {A:List Int} {v a o:Int} (h:Sk.bars S l may A v a o=true):a<Sk.aAt A o+Sk.ct S o:=by
 unfold Sk.bars at h;simp only [Bool.and_eq_true,decide_eq_true_eq] at h;exact h.1.1.2
theorem Gnd.setL {B:Nat} {w w':World} {gb:Nat} {x:GdV} {S:Sk.Sys} {K:List Int} {b:Nat} {st:Sk.St} {vL vN:Value} {v:Int} {ob:Obj} (h:Gnd B w gb x S K b st vL) (hv:0<=v/\v<S.V.length) (hl:st.L.length+1<=1000) (own:OwnL kInt B w' vN (st.L++[v])) (hg:(w.alloc ob).grownBy w' vL.ownBlock) (hm:vN.ownBlock=vL.ownBlock\/∃ k,vN.ownBlock=some k/\w.heap.size<=k) :
  Gnd B (w'.setCell ⟨gb,9,none⟩ vN) gb x S K b ⟨st.A,st.c,st.L++[v]⟩ vN:=by
 have yG:gb<w.heap.size:=zH h.gd;have yA:x.ga<w.heap.size:=h.at_.lt;have yK:x.gk<w.heap.size:=h.keep_.lt;have hs:w.heap.size<=w'.heap.size:=Nat.le_trans (by simp) hg.size;have hk:∀ k,k<w.heap.size->vL.ownBlock≠some k->w'.heap[k]?=w.heap[k]?:=fun k hk hn=>by
  rw [hg.block k (by simp;omega) (fun e=>hn e.symm)];exact Below.heap_alloc _ _ _ hk
 have ne:∀ k,k<w.heap.size->vL.ownBlock≠some k->vN.ownBlock≠some k:=fun k hk hn e=>by
  rcases hm with q | ⟨m,q,hq⟩
  ·exact hn (q ▸ e)
  ·rw [q] at e
   injection e with e;omega
 have ownb:∀ k,k<B->vL.ownBlock≠some k:=fun k hk e=>by have:=(h.laid.lt k e).1;omega
 have hgd:=(hk gb yG h.vne.1).trans h.gd;exact { h with
  gd:=by have:=zO hgd 9 vN;simpa [GdAt] using this
  at_:=zN (h.at_.keep (hk _ yA h.vne.2.1)) h.nes.1 _
  keep_:=zN (h.keep_.keep (hk _ yK h.vne.2.2)) h.nes.2.1 _
  laid:=zR own (ne gb yG h.vne.1) (fun _ _ _ _ _ q=>q) _
  vne:=⟨ne _ yG h.vne.1,ne _ yA h.vne.2.1,ne _ yK h.vne.2.2⟩
  sys:=(h.sys.keep hs (fun i hi hl=>hk i hl (ownb i hi))).keep (by rw [xF];exact Nat.le_refl _) (fun k hk hl=>zQ _ _ _ (by have:=h.lo.1;show gb≠k;omega))
  sp:=(h.sp.keep (hk _ h.sp.lt (ownb _ h.sl))).keep (zQ _ _ _ (by have:=h.lo.1;have:=h.sl;show gb≠x.sg;omega))
  lin:=fun o ho=>by
   rcases List.mem_append.1 ho with q | q
   ·exact h.lin o q
   ·simp at q;rw [q];exact hv
  few:=by show (st.L++[v]).length<=1000;simp;omega }
theorem after_more {B:Nat} {w w':World} {gb:Nat} {x:GdV} {S:Sk.Sys} {K:List Int} {b:Nat} {st:Sk.St} {vL vN:Value} {v:Int} {ob:Obj} (h:Gnd B w gb x S K b st vL) (hv:0<=v/\v<S.V.length) (hl:st.L.length+1<=1000) (own:OwnL kInt B w' vN (st.L++[v])) (hg:(w.alloc ob).grownBy w' vL.ownBlock) (hm:Moved (w.alloc ob) vL vN) :
  w'.heap[gb]?=some (.cells #[.slice x.aV S.V.length x.cV,.slice x.aI S.I.length x.cI,.slice x.aO S.O.length x.cO,.slice x.aR S.R.length x.cR,.slice (some ⟨x.sg,0,none⟩) S.V.length S.V.length,.slice (some ⟨x.ga,0,none⟩) S.V.length S.V.length,.slice (some ⟨x.gk,0,none⟩) S.R.length S.R.length,.int .i64 (st.c:Int),.int .i64 (b:Int),vL] 86 (0,0))/\Gnd B (w'.setCell ⟨gb,9,none⟩ vN) gb x S K b ⟨st.A,st.c,st.L++[v]⟩ vN/\(vN.ownBlock=vL.ownBlock\/∃ k,vN.ownBlock=some k/\w.heap.size<=k)/\∀ T,gb ∈ T->(∀ k,vL.ownBlock=some k->k ∈ T)->∀ {n:Nat},n<=w.heap.size->Aside T n w (w'.setCell ⟨gb,9,none⟩ vN):=by
 have hm2:vN.ownBlock=vL.ownBlock\/∃ k,vN.ownBlock=some k/\w.heap.size<=k:=by
  rcases hm with q | ⟨k,q,hk⟩
  ·exact .inl q
  ·exact .inr ⟨k,q,Nat.le_trans (by simp) hk⟩
 have hk:∀ k,k<w.heap.size->vL.ownBlock≠some k->w'.heap[k]?=w.heap[k]?:=fun k hk hn=>by
  rw [hg.block k (by simp;omega) (fun e=>hn e.symm)];exact Below.heap_alloc _ _ _ hk
 refine ⟨(hk gb (zH h.gd) h.vne.1).trans h.gd,h.setL hv hl own hg hm2,hm2,fun T h1 h2 n hn=>?_⟩;have a1:Aside T n w w':=⟨hg.os,hg.tape,hg.output,Nat.le_trans (by simp) hg.size,fun k hk2 hnT=>hk k (by omega) (fun e=>hnT (h2 k e))⟩;exact a1.trans (Aside.setCell (S:=T) (B:=n) (p:=⟨gb,9,none⟩) h1 vN) zL
theorem lay_any {B:Nat} {w:World} {gb:Nat} {x:GdV} {S:Sk.Sys} {KL:List Int} {b:Nat} {st:Sk.St} {vL:Value} {N:Nat} {bs cs:Array Value} {may:Int->Bool} (h:Gnd B w gb x S KL b st vL) (ok:Sk.Okay S) (v:Nat) (hv:v<S.V.length) (hb:b<=st.c) (hc:st.c<=500000) (hA:∀ o ∈ st.L,0<=Sk.aAt st.A o/\Sk.aAt st.A o+Sk.ct S o<=st.c) (hl:st.L.length+1<=1000) (eg:∀ args w,(callFunc N args).run Tryz.prog w=.ok (.enter N args) w) (hm:∀ o ∈ st.L,∀ W,Below w.heap.size w W->Calls Tryz.prog N (bs++#[.int .i64 o]++cs) W fun e W'=>e=.returned (.bool (may o))/\Below W.heap.size W W') :
  Calls Tryz.prog 72 #[.pointer (some ⟨gb,0,none⟩),.int .i64 (v:Int),.func (.func N) bs cs] w fun e w'=>e=.returned (.tuple #[])/\∃ a vN,Sk.Fit S (Sk.spans S) may b st (v:Int) a/\Gnd B w' gb x S KL b (st.lay S (v:Int) a) vN/\(vN.ownBlock=vL.ownBlock\/∃ k,vN.ownBlock=some k/\w.heap.size<=k)/\∀ T,gb ∈ T->x.ga ∈ T->(∀ k,vL.ownBlock=some k->k ∈ T)->Aside T w.heap.size w w':=by
 obtain ⟨aV,cV,aI,cI,aO,cO,aR,cR,sg,ga,gk⟩:=x;obtain ⟨-,-,-,-,-,-,-,-,c8,-⟩:=h.gd.cells;have HG:=zG h;have HOK:=zG ok;have HA:=zG hA;have HM:=zG hm;have hvl:=ok.nV;have HL:=zG hl;have HCE:=zG (show True from trivial);clear h ok hA hm HCE hl;go_enter Tryz.func72,Tryz.ntmps72;go_wp2_with fail;clear c8;go_loopg [6] (st.c-b) (fun k v6 wr=>∃ a:Nat,v6=.int .i64 (a:Int)/\k=st.c-a/\b<=a/\a<=st.c/\Hid ((∀ o ∈ st.L,Sk.bars S (Sk.spans S) may st.A (v:Int) (b:Int) o=false)->a=b)/\Below w.heap.size w wr)
 case atStart=>exact ⟨b,rfl,rfl,Nat.le_refl _,hb,zG (fun _=>rfl),Below.refl _ _⟩
 case round=>
  obtain ⟨a,rfl,rfl,hba,hac,HF,hbr⟩:=hrel;have HGr:=zG (HG.out.under hbr);have hA2:∀ o ∈ st.L,0<=Sk.aAt st.A o/\Sk.aAt st.A o<=1000000:=fun o ho=>by have:=HA.out o ho;omega
  have hbar:=barring_any HGr.out HOK.out v hv a (by omega) eg hA2 (fun o ho W hW=>HM.out o ho W (hbr.trans (hW.mono hbr.size)));have HA2:=zG hA2;clear hA2;go_wp2_with fail;refine hbar.mono ?_;rintro e w2 ⟨b2,hcs⟩;clear hbar;have B2:=hbr.trans (b2.mono hbr.size);have HG2:=zG (HGr.out.under b2);rcases hcs with ⟨rfl,hno⟩ | ⟨o,hoL,hob,rfl⟩
  case inr=>
   have hin:=HG2.out.lin o hoL;obtain ⟨z,rfl⟩:∃ z:Nat,o=(z:Int):=⟨o.toNat,by omega⟩;have hbe:=behind_any (q5:=may (z:Int)) HG2.out HOK.out z (by omega) (a:Int) eg (HA2.out _ hoL) (fun W hW=>HM.out _ hoL W (B2.trans (hW.mono B2.size)));have hbt:=bars_true hob;have hzA:=HA.out _ hoL;have hF2:¬(∀ o ∈ st.L,Sk.bars S (Sk.spans S) may st.A (v:Int) (b:Int) o=false):=fun hall=>by
    have e:=HF.out hall;subst e;rw [hall _ hoL] at hob
    cases hob
   obtain ⟨n,hn1,hn2,hn3⟩:∃ n:Nat,(if (a:Int)<Sk.aAt st.A (z:Int)/\may (z:Int)=true then Sk.aAt st.A (z:Int) else Sk.aAt st.A (z:Int)+Sk.ct S (z:Int))=(n:Int)/\a<n/\n<=st.c:=by
    split
    ·rename_i q
     exact ⟨(Sk.aAt st.A (z:Int)).toNat,by omega,by omega,by have:=Sk.ct_pos S (z:Int);omega⟩
    ·exact ⟨(Sk.aAt st.A (z:Int)+Sk.ct S (z:Int)).toNat,by omega,by omega,by omega⟩
   rw [hn1] at hbe;have HF3:=zG (show (∀ o ∈ st.L,Sk.bars S (Sk.spans S) may st.A (v:Int) (b:Int) o=false)->n=b from fun q=>absurd q hF2);clear hob hbt hzA hF2 hn1 HF hoL hin;go_wp2_with fail;refine hbe.mono ?_;rintro e w3 ⟨rfl,b3⟩;clear hbe;have B3:=B2.trans (b3.mono B2.size);go_wp2_with fail;go_roundg (st.c-n)
   case measure=>omega
   case rel=>exact ⟨n,rfl,rfl,by omega,hn3,HF3,B3⟩
  case inl=>
   have HFIT:=zG (show Sk.Fit S (Sk.spans S) may b st (v:Int) a from ⟨hba,hac,hno,HF.out⟩);have hva:v<st.A.length:=(by rw [HG.out.la];exact hv);have st_:=HG2.out.at_.at hva;have ff_:=HG2.out.at_.free v;obtain ⟨-,-,-,-,-,c5,-,-,-,-⟩:=HG2.out.gd.cells
   dsimp only at st_ ff_ c5
   generalize st.A[v]=aold at st_;have HG3:=zG (HG2.out.setAt v (a:Int));have yg2:=zH HG2.out.gd;have ya2:ga<w2.heap.size:=HG2.out.at_.lt;have fr3:=zG (fun (T:List Nat) (hT:ga ∈ T)=>(aside (S:=T) B2).trans (Aside.setCell (S:=T) (B:=w.heap.size) (w:=w2) (p:=⟨ga,v,none⟩) hT (.int .i64 (a:Int))) zL);have z3:(w2.setCell ⟨ga,v,none⟩ (.int .i64 (a:Int))).heap.size=w2.heap.size:=xF _ _ _;have B2z:=B2.size;clear hno HF HG2 HGr;go_upto_region 5 with fail;clear st_ ff_ c5;generalize w2.setCell ⟨ga,v,none⟩ (.int .i64 (a:Int))=w3 at HG3 fr3 z3 ⊢;obtain ⟨-,-,-,-,-,-,-,c7,-,-⟩:=HG3.out.gd.cells
   dsimp only at c7
   have yG:=zH HG3.out.gd;have HWD:=zG (fun (W:World) (hW:Below w3.heap.size w3 W)=>xM (HG3.out.under hW) HOK.out v hv);have hcl:=Sk.ct_le HOK.out (v:Int) (by omega) (by omega);obtain ⟨cn,hcn⟩:=nmQ (Sk.ct S (v:Int));rw [<-hcn] at HWD hcl;have HCN:=zG hcn;clear hcn;obtain ⟨sc,hsc⟩:=nmQ (st.c);rw [<-hsc] at c7 hac hc;have HSC:=zG hsc;clear hsc hb;refine zK (fun w'=>Below w3.heap.size w3 w') (fun i=>i==15) (by kernel_rfl) ?_;have hH0:Below w3.heap.size w3 w3.drew:=(Below.refl _ _).drew;generalize w3.drew=wd0 at hH0 ⊢;refine' tkR 0 36 hH0 ?o1
   refine' tkR 1 37 hH0 ?o2
   refine' tkR 2 38 hH0 ?o3
   refine' tkR 3 39 hH0 ?o4
   refine' tkR 4 40 hH0 ?o5
   refine' tkQ 5 41 hH0 ?hyv ?o6
   case hyv=>
    intro wz hSw;have zc0:=(hSw.cell (p:=⟨gb,7,none⟩) yG).trans c7;go_simp
    try rfl
   try simp only [Act.put,sT,sZ,sS]
   refine' tkR 6 42 hH0 ?o7
   refine' tkR 7 43 hH0 ?o8
   refine' tkR 8 44 hH0 ?o9
   refine tnQ 9 (fun K hK=>?_);go_simp;refine (HWD.out wd0 hH0).mono ?_;rintro eq wd1 ⟨rfl,bq1⟩;have hH1:Below w3.heap.size w3 wd1:=hH0.trans (bq1.mono hH0.size);refine hK.out _ _ (fun _=>hH1) ?_;clear hK K
   try simp only [Act.put,sT,sZ,sS]
   refine' zM (i:=10) (oi:=⟨some 46,_,_,_,_,_⟩) (v:=.int .i64 ((a:Int)+(cn:Int))) rfl (by kernel_rfl) (by kernel_rfl) (by kernel_rfl) (by kernel_rfl) (fun _ _ _ h=>h) hH1 (by rfl) ?hyv ?o10
   case hyv=>
    intro wz hSw;go_simp;rw [i64_in _ ⟨by omega,by omega⟩]
   try simp only [Act.put,sT,sZ,sS]
   refine' tkR 11 47 hH1 ?o11
   refine tnQ 12 (fun K hK=>?_);go_simp;have hH2:=hH1;obtain ⟨wd2,hwd2⟩:=nmQ (wd1);rw [<-hwd2] at hH2;refine hK.out _ _ (fun _=>by rw [<-hwd2];exact hH2) ?_;clear hK K
   try simp only [Act.put,sT,sZ,sS]
   rw [<-hwd2];clear hwd2;refine tnQ 13 (fun K hK=>?_);go_simp;have hH3:=hH2;obtain ⟨wd3,hwd3⟩:=nmQ (wd2);rw [<-hwd3] at hH3;refine hK.out _ _ (fun _=>by rw [<-hwd3];exact hH3) ?_;clear hK K
   try simp only [Act.put,sT,sZ,sS]
   rw [<-hwd3];clear hwd3;refine' tkR 14 50 hH3 ?o12
   refine tnQ 15 (fun K hK=>?_);have hr_:=HG3.out.under hH3;have st_:=hr_.gd.cells.2.2.2.2.2.2.2.1;have ff_:=foQ hr_.gd 7;have HG6:=zG (show Gnd B (wd3.setCell ⟨gb,7,none⟩ (.int .i64 (max (sc:Int) ((a:Int)+(cn:Int))))) gb ⟨aV,cV,aI,cI,aO,cO,aR,cR,sg,ga,gk⟩ S KL b ⟨st.A.set v (a:Int),max sc (a+cn),st.L⟩ vL by have h5:=hr_.setC (max sc (a+cn));rw [show ((max sc (a+cn):Nat):Int)=max (sc:Int) ((a:Int)+(cn:Int)) by omega] at h5;exact h5);have fr6:=zG (fun (T:List Nat) (hT:ga ∈ T) (hT2:gb ∈ T)=>((fr3.out T hT).trans (aside (hH3.mono (by omega))) zL).trans (Aside.setCell (S:=T) (B:=w.heap.size) (w:=wd3) (p:=⟨gb,7,none⟩) hT2 (.int .i64 (max (sc:Int) ((a:Int)+(cn:Int))))) zL);have z6:(wd3.setCell ⟨gb,7,none⟩ (.int .i64 (max (sc:Int) ((a:Int)+(cn:Int))))).heap.size=wd3.heap.size:=xF _ _ _;have zC:=hH3.size;clear hr_;go_simp;refine hK.out _ _ (fun h=>absurd h (by decide)) ?_;clear hK K
   try simp only [Act.put,sT,sZ,sS]
   clear st_ ff_;generalize wd3.setCell ⟨gb,7,none⟩ (.int .i64 (max (sc:Int) ((a:Int)+(cn:Int))))=wd4 at HG6 fr6 z6 ⊢;refine zI (by kernel_rfl) ?_ _;obtain ⟨wx,hwx⟩:=nmQ (wd4);subst hwx;have zx:w.heap.size<=wx.heap.size:=(by omega);clear z6 zC;clear z3;obtain ⟨-,-,-,-,-,-,-,-,-,c9⟩:=HG6.out.gd.cells;have ff9:=foQ HG6.out.gd 9;have yg6:=zH HG6.out.gd;have HO6:=zG HG6.out.laid;have HVN:=zG HG6.out.vne;have hlo:=HG6.out.lo
   dsimp only at hlo HO6 HVN
   have HNb:=zG (fun k (e:vL.ownBlock=some k)=>(HO6.out.lt k e).2);obtain ⟨aL,cL,eL,hcL1,hcL2⟩:=HO6.out.form;subst eL;have zB:B<=wx.heap.size:=(by omega);have q2:(st.L.length+1)*8<=140737488355328:=(by have:=HL.out;omega);have q3:st.L.length+1<=maxLen:=(by have:=HL.out;unfold maxLen;omega);clear c7 yG fr3 HG3 HWD
   go_wp2_with (at_builtin;refine zS kInt rfl _ _ 23 3 rfl Tryz.underlying23 B wx.heap.size _ st.L (by rfl) HO6.out [.int .i64 (v:Int)] (v:Int) rfl (by rfl) HNb.out zB zB q2 q3 ?_;intro v8 w8 own8 b8 hg8 hmv8;obtain ⟨a8,c8,e8,-,-⟩:=own8.form;rw [List.length_append,List.length_singleton] at e8;subst e8;have HX8:=zG (after_more HG6.out ⟨by omega,by omega⟩ HL.out own8 hg8 hmv8);have kG8:=HX8.out.1;have st9:=coQ kG8 9;have ff8:=foQ kG8 9;simp at st9;clear own8 hg8 hmv8 b8 c9 ff9 kG8)
   refine bodyPost_end (v:=.tuple #[]) (by simp [results,Tryz.results72,go_sem]) rfl ?_;have hX:=HX8.out;refine ⟨rfl,a,HFIT.out,.slice a8 (st.L.length+1) c8,?_,?_,fun T h1 h2 h3=>(fr6.out T h2 h1).trans (hX.2.2.2 T h1 h3 zx) zL⟩
   ·have h5:=hX.2.1
    rw [HSC.out,HCN.out] at h5;exact h5
   ·rcases hX.2.2.1 with q | ⟨k,q,hk⟩
    ·exact .inl q
    ·exact .inr ⟨k,q,by omega⟩
end Go.Proofs.YtegakbobaecdlaaGreatDoor
