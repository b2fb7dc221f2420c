import Derived.Test.YtnhmcpnbaajjcaaGreatDoorC33
import Derived.Test.YtnhmcpnbaajjcaaGreatDoorC28
set_option linter.unusedVariables false
set_option linter.unusedSimpArgs false
set_option maxHeartbeats 64000000
set_option maxRecDepth 100000
namespace Go.Proofs.YtnhmcpnbaajjcaaGreatDoor
open Go.RowKit Go.IntWalk
theorem eg131:∀ args w,(callFunc 131 args).run Tryz.prog w=.ok (.enter 131 args) w:=enters_of Tryz.func131 (by kernel_rfl) rfl
theorem eg132:∀ args w,(callFunc 132 args).run Tryz.prog w=.ok (.enter 132 args) w:=enters_of Tryz.func132 (by kernel_rfl) rfl
theorem eg101:∀ args w,(callFunc 101 args).run Tryz.prog w=.ok (.enter 101 args) w:=enters_of Tryz.func101 (by kernel_rfl) rfl
theorem eg103:∀ args w,(callFunc 103 args).run Tryz.prog w=.ok (.enter 103 args) w:=enters_of Tryz.func103 (by kernel_rfl) rfl
theorem eg107:∀ args w,(callFunc 107 args).run Tryz.prog w=.ok (.enter 107 args) w:=enters_of Tryz.func107 (by kernel_rfl) rfl
theorem eg135:∀ args w,(callFunc 135 args).run Tryz.prog w=.ok (.enter 135 args) w:=enters_of Tryz.func135 (by kernel_rfl) rfl
theorem eg126:∀ args w,(callFunc 126 args).run Tryz.prog w=.ok (.enter 126 args) w:=enters_of Tryz.func126 (by kernel_rfl) rfl
theorem eg127:∀ args w,(callFunc 127 args).run Tryz.prog w=.ok (.enter 127 args) w:=enters_of Tryz.func127 (by kernel_rfl) rfl
theorem cellWith1_any {w:World} {okl:Nat→Prop} {pb ob nb:Nat} {p o:Int} {u:Value} {l:List Int} (hp:w.heap[pb]?=some (.cells #[.int .i64 p] 2 (0,0))) (ho:w.heap[ob]?=some (.cells #[.int .i64 o] 2 (0,0))) (hnl:w.heap[nb]?=some (.cells #[u] 52 (0,0))) (hul:HInts okl w u l) (k:Nat) (hk:k<l.length) :
  Calls Tryz.prog 131 #[.int .i64 (k:Int),.pointer (some ⟨pb,0,none⟩),.pointer (some ⟨ob,0,none⟩),.pointer (some ⟨nb,0,none⟩)] w fun e w'=>e=.returned (.int .i64 (if (k:Int)=p then o else l.getD k 0))∧Below w.heap.size w w':=by
 have p0:=co hp 0;have o0:=co ho 0;simp at p0 o0;clear hp ho;obtain ⟨aol,capl,rfl,h1l,h2l,hatl⟩:=hul.at;obtain ⟨bl,ol,rfl,ybl,cl⟩:=hatl k (by omega);have nl:=co hnl 0;simp at nl;have el:l.getD k 0=l[k]:=(by rw [List.getD_eq_getElem?_getD,List.getElem?_eq_getElem (by omega)];rfl);rw [el];generalize l[k]=xl at cl ⊢;unfold maxLen at h2l;have ynl:=lt_of hnl;clear el hatl hul hnl;obtain ⟨Ll,hLl⟩:=nmQ (l.length);rw [←hLl] at nl h1l hk;clear hLl;by_cases h:(k:Int)=p
 ·rw [if_pos h]
  have e:((k:Int)==p)=true:=(by simp [h]);clear h;go_enter Tryz.func131,Tryz.ntmps131;go_wp2;go_ret;exact ⟨rfl,Below.refl _ _⟩
 ·rw [if_neg h]
  have e:((k:Int)==p)=false:=(by simp [h]);clear h;go_enter Tryz.func131,Tryz.ntmps131;go_wp2;go_ret;exact ⟨rfl,Below.refl _ _⟩
theorem cellOfBoth1_any {w:World} {okl okr:Nat→Prop} {nb mb:Nat} {u v:Value} {l r:List Int} (hnl:w.heap[nb]?=some (.cells #[u] 52 (0,0))) (hul:HInts okl w u l) (hnr:w.heap[mb]?=some (.cells #[v] 52 (0,0))) (hur:HInts okr w v r) (hm:l.length≤300) (k:Nat) (hk:k<l.length+r.length) (hk2:k≤1000) :
  Calls Tryz.prog 132 #[.int .i64 (k:Int),.pointer (some ⟨nb,0,none⟩),.pointer (some ⟨mb,0,none⟩)] w fun e w'=>e=.returned (.int .i64 (if k<l.length then l.getD k 0 else r.getD (k-l.length) 0))∧Below w.heap.size w w':=by
 by_cases h:k<l.length
 case pos=>
  rw [if_pos h];clear hur hnr hk;obtain ⟨aol,capl,rfl,h1l,h2l,hatl⟩:=hul.at;obtain ⟨bl,ol,rfl,ybl,cl⟩:=hatl k (by omega);have nl:=co hnl 0;simp at nl;have el:l.getD k 0=l[k]:=(by rw [List.getD_eq_getElem?_getD,List.getElem?_eq_getElem (by omega)];rfl);rw [el];generalize l[k]=xl at cl ⊢;unfold maxLen at h2l;have ynl:=lt_of hnl;clear el hatl hul hnl;obtain ⟨Ll,hLl⟩:=nmQ (l.length);rw [←hLl] at nl h1l h hm;clear hLl;go_enter Tryz.func132,Tryz.ntmps132;go_wp2;go_ret;exact ⟨rfl,Below.refl _ _⟩
 case neg=>
  rw [if_neg h];obtain ⟨aol,capl,rfl,h1l,h2l,-⟩:=hul.at;have nl:=co hnl 0;simp at nl;unfold maxLen at h2l;obtain ⟨z,hz⟩:∃ z,k=l.length+z:=⟨k-l.length,by omega⟩;have e3:k-l.length=z:=(by omega);rw [e3];have hzr:z<r.length:=(by omega);have hzs:(k:Int)-(l.length:Int)=(z:Int):=(by omega);clear hul hnl e3 hz hk;have hlk:l.length≤k:=(by omega);clear h;generalize l.length=Ll at *;obtain ⟨aor,capr,rfl,h1r,h2r,hatr⟩:=hur.at;obtain ⟨br,orr,rfl,ybr,cr⟩:=hatr z (by omega);have nr:=co hnr 0;simp at nr;have er:r.getD z 0=r[z]:=(by rw [List.getD_eq_getElem?_getD,List.getElem?_eq_getElem (by omega)];rfl);rw [er];generalize r[z]=xr at cr ⊢;unfold maxLen at h2r;have ynr:=lt_of hnr;clear er hatr hur hnr;obtain ⟨Lr,hLr⟩:=nmQ (r.length);rw [←hLr] at nr h1r hzr;clear hLr;have hlt:((k:Int)<(Ll:Int))=False:=(by simp;omega);go_enter Tryz.func132,Tryz.ntmps132;go_wp2;go_ret;exact ⟨rfl,Below.refl _ _⟩
theorem cell1_any {w:World} {rb:Nat} {op K out n:Int} {aA aE:Option Addr} {nA cA nE cE:Nat} {okl:Nat→Prop} {mb nb k:Nat} {u:Value} {l:List Int} (kM:w.heap[mb]?=some (.cells #[.pointer (some ⟨rb,0,none⟩),.int .i64 op,.int .i64 K,.int .i64 out,.int .i64 n,.slice aA nA cA,.slice aE nE cE] 110 (0,0))) (hnl:w.heap[nb]?=some (.cells #[u] 52 (0,0))) (hul:HInts okl w u l) (hk:k<l.length) :
  Calls Tryz.prog 101 #[.int .i64 (k:Int),.pointer (some ⟨mb,0,none⟩),.pointer (some ⟨nb,0,none⟩)] w fun e w'=>e=.returned (.int .i64 (apT K (l.getD k 0) 0))∧Below w.heap.size w w':=by
 have m2:=co kM 2;simp at m2;have yM:=lt_of kM;clear kM;obtain ⟨aol,capl,rfl,h1l,h2l,hatl⟩:=hul.at;obtain ⟨bl,ol,rfl,ybl,cl⟩:=hatl k (by omega);have nl:=co hnl 0;simp at nl;have el:l.getD k 0=l[k]:=(by rw [List.getD_eq_getElem?_getD,List.getElem?_eq_getElem (by omega)];rfl);rw [el];generalize l[k]=xl at cl ⊢;unfold maxLen at h2l;have ynl:=lt_of hnl;clear el hatl hul hnl;obtain ⟨Ll,hLl⟩:=nmQ (l.length);rw [←hLl] at nl h1l hk;clear hLl;go_enter Tryz.func101,Tryz.ntmps101;go_upto_region 1 with fail;refine wp_region_late (fun w'=>Below w.heap.size w w') (fun _=>false) (by kernel_rfl) ?_;have hH0:Below w.heap.size w w.drew:=(Below.refl _ _).drew;generalize w.drew=wd0 at hH0 ⊢;refine' tkR 0 5 hH0 ?o1
 refine' tkR 1 6 hH0 ?o2
 refine' tkQ 2 7 hH0 ?hyv ?o3
 case hyv=>
  intro wz hSw;have zc0:=(hSw.cell (p:=⟨mb,2,none⟩) yM).trans m2;have zc1:=(hSw.cell (p:=⟨nb,0,none⟩) ynl).trans nl;have zc2:=(hSw.cell (p:=⟨bl,ol+k,none⟩) ybl).trans cl;go_simp
  try rfl
 try simp only [Act.put,sT,sZ,sS]
 refine' tkQ 3 8 hH0 ?hyv ?o4
 case hyv=>
  intro wz hSw;have zc0:=(hSw.cell (p:=⟨mb,2,none⟩) yM).trans m2;have zc1:=(hSw.cell (p:=⟨nb,0,none⟩) ynl).trans nl;have zc2:=(hSw.cell (p:=⟨bl,ol+k,none⟩) ybl).trans cl;go_simp
  try rfl
 try simp only [Act.put,sT,sZ,sS]
 refine' tkR 4 9 hH0 ?o5
 refine' tkR 5 10 hH0 ?o6
 refine' tkQ 6 11 hH0 ?hyv ?o7
 case hyv=>
  intro wz hSw;have zc0:=(hSw.cell (p:=⟨mb,2,none⟩) yM).trans m2;have zc1:=(hSw.cell (p:=⟨nb,0,none⟩) ynl).trans nl;have zc2:=(hSw.cell (p:=⟨bl,ol+k,none⟩) ybl).trans cl;go_simp
  try rfl
 try simp only [Act.put,sT,sZ,sS]
 refine tnQ 7 (fun K hK=>?_);go_simp;refine (applyB_any _ _ _ wd0).mono ?_;rintro eq wd1 ⟨rfl,bq1⟩;have hH1:Below w.heap.size w wd1:=hH0.trans (bq1.mono hH0.size);refine hK.out _ _ (fun _=>hH1) ?_;clear hK K
 try simp only [Act.put,sT,sZ,sS]
 refine' tkR 8 4 hH1 ?o8
 refine wpAnyL_done (by kernel_rfl) ?_ _;go_wp2;go_ret;exact ⟨rfl,hH1⟩
theorem cell2_any {w:World} {rb:Nat} {op K out n:Int} {aA aE:Option Addr} {nA cA nE cE:Nat} {okl okr:Nat→Prop} {mb nb sb k:Nat} {u v:Value} {l r:List Int} (kM:w.heap[mb]?=some (.cells #[.pointer (some ⟨rb,0,none⟩),.int .i64 op,.int .i64 K,.int .i64 out,.int .i64 n,.slice aA nA cA,.slice aE nE cE] 110 (0,0))) (hnl:w.heap[nb]?=some (.cells #[u] 52 (0,0))) (hul:HInts okl w u l) (hnr:w.heap[sb]?=some (.cells #[v] 52 (0,0))) (hur:HInts okr w v r) (hk:k<l.length) (hkr:k<r.length) :
  Calls Tryz.prog 103 #[.int .i64 (k:Int),.pointer (some ⟨mb,0,none⟩),.pointer (some ⟨nb,0,none⟩),.pointer (some ⟨sb,0,none⟩)] w fun e w'=>e=.returned (.int .i64 (apT K (l.getD k 0) (r.getD k 0)))∧Below w.heap.size w w':=by
 have m2:=co kM 2;simp at m2;have yM:=lt_of kM;clear kM;obtain ⟨aol,capl,rfl,h1l,h2l,hatl⟩:=hul.at;obtain ⟨bl,ol,rfl,ybl,cl⟩:=hatl k (by omega);have nl:=co hnl 0;simp at nl;have el:l.getD k 0=l[k]:=(by rw [List.getD_eq_getElem?_getD,List.getElem?_eq_getElem (by omega)];rfl);rw [el];generalize l[k]=xl at cl ⊢;unfold maxLen at h2l;have ynl:=lt_of hnl;clear el hatl hul hnl;obtain ⟨aor,capr,rfl,h1r,h2r,hatr⟩:=hur.at;obtain ⟨br,orr,rfl,ybr,cr⟩:=hatr k (by omega);have nr:=co hnr 0;simp at nr;have er:r.getD k 0=r[k]:=(by rw [List.getD_eq_getElem?_getD,List.getElem?_eq_getElem (by omega)];rfl);rw [er];generalize r[k]=xr at cr ⊢;unfold maxLen at h2r;have ynr:=lt_of hnr;clear er hatr hur hnr;obtain ⟨Ll,hLl⟩:=nmQ (l.length);rw [←hLl] at nl h1l hk;clear hLl;obtain ⟨Lr,hLr⟩:=nmQ (r.length);rw [←hLr] at nr h1r hkr;clear hLr;go_enter Tryz.func103,Tryz.ntmps103;go_upto_region 1 with fail;refine wp_region_late (fun w'=>Below w.heap.size w w') (fun _=>false) (by kernel_rfl) ?_;have hH0:Below w.heap.size w w.drew:=(Below.refl _ _).drew;generalize w.drew=wd0 at hH0 ⊢;refine' tkR 0 6 hH0 ?o9
 refine' tkR 1 7 hH0 ?o10
 refine' tkQ 2 8 hH0 ?hyv ?o11
 case hyv=>
  intro wz hSw;have zc0:=(hSw.cell (p:=⟨mb,2,none⟩) yM).trans m2;have zc1:=(hSw.cell (p:=⟨nb,0,none⟩) ynl).trans nl;have zc2:=(hSw.cell (p:=⟨bl,ol+k,none⟩) ybl).trans cl;have zc3:=(hSw.cell (p:=⟨sb,0,none⟩) ynr).trans nr;have zc4:=(hSw.cell (p:=⟨br,orr+k,none⟩) ybr).trans cr;go_simp
  try rfl
 try simp only [Act.put,sT,sZ,sS]
 refine' tkQ 3 9 hH0 ?hyv ?o12
 case hyv=>
  intro wz hSw;have zc0:=(hSw.cell (p:=⟨mb,2,none⟩) yM).trans m2;have zc1:=(hSw.cell (p:=⟨nb,0,none⟩) ynl).trans nl;have zc2:=(hSw.cell (p:=⟨bl,ol+k,none⟩) ybl).trans cl;have zc3:=(hSw.cell (p:=⟨sb,0,none⟩) ynr).trans nr;have zc4:=(hSw.cell (p:=⟨br,orr+k,none⟩) ybr).trans cr;go_simp
  try rfl
 try simp only [Act.put,sT,sZ,sS]
 refine' tkR 4 10 hH0 ?o13
 refine' tkR 5 11 hH0 ?o14
 refine' tkQ 6 12 hH0 ?hyv ?o15
 case hyv=>
  intro wz hSw;have zc0:=(hSw.cell (p:=⟨mb,2,none⟩) yM).trans m2;have zc1:=(hSw.cell (p:=⟨nb,0,none⟩) ynl).trans nl;have zc2:=(hSw.cell (p:=⟨bl,ol+k,none⟩) ybl).trans cl;have zc3:=(hSw.cell (p:=⟨sb,0,none⟩) ynr).trans nr;have zc4:=(hSw.cell (p:=⟨br,orr+k,none⟩) ybr).trans cr;go_simp
  try rfl
 try simp only [Act.put,sT,sZ,sS]
 refine' tkQ 7 13 hH0 ?hyv ?o16
 case hyv=>
  intro wz hSw;have zc0:=(hSw.cell (p:=⟨mb,2,none⟩) yM).trans m2;have zc1:=(hSw.cell (p:=⟨nb,0,none⟩) ynl).trans nl;have zc2:=(hSw.cell (p:=⟨bl,ol+k,none⟩) ybl).trans cl;have zc3:=(hSw.cell (p:=⟨sb,0,none⟩) ynr).trans nr;have zc4:=(hSw.cell (p:=⟨br,orr+k,none⟩) ybr).trans cr;go_simp
  try rfl
 try simp only [Act.put,sT,sZ,sS]
 refine' tkR 8 14 hH0 ?o17
 refine' tkR 9 15 hH0 ?o18
 refine' tkQ 10 16 hH0 ?hyv ?o19
 case hyv=>
  intro wz hSw;have zc0:=(hSw.cell (p:=⟨mb,2,none⟩) yM).trans m2;have zc1:=(hSw.cell (p:=⟨nb,0,none⟩) ynl).trans nl;have zc2:=(hSw.cell (p:=⟨bl,ol+k,none⟩) ybl).trans cl;have zc3:=(hSw.cell (p:=⟨sb,0,none⟩) ynr).trans nr;have zc4:=(hSw.cell (p:=⟨br,orr+k,none⟩) ybr).trans cr;go_simp
  try rfl
 try simp only [Act.put,sT,sZ,sS]
 refine tnQ 11 (fun K hK=>?_);go_simp;refine (applyB_any _ _ _ wd0).mono ?_;rintro eq wd1 ⟨rfl,bq1⟩;have hH1:Below w.heap.size w wd1:=hH0.trans (bq1.mono hH0.size);refine hK.out _ _ (fun _=>hH1) ?_;clear hK K
 try simp only [Act.put,sT,sZ,sS]
 refine' tkR 12 5 hH1 ?o20
 refine wpAnyL_done (by kernel_rfl) ?_ _;go_wp2;go_ret;exact ⟨rfl,hH1⟩
theorem cell3_any {w:World} {okl:Nat→Prop} {nb fb:Nat} {u:Value} {l:List Int} {f:Nat} (hnl:w.heap[nb]?=some (.cells #[u] 52 (0,0))) (hul:HInts okl w u l) (hf:w.heap[fb]?=some (.cells #[.int .i64 (f:Int)] 3 (0,0))) (k:Nat) (hk:f+k<l.length) (hl:l.length≤300) :
  Calls Tryz.prog 107 #[.int .i64 (k:Int),.pointer (some ⟨nb,0,none⟩),.pointer (some ⟨fb,0,none⟩)] w fun e w'=>e=.returned (.int .i64 (l.getD (f+k) 0))∧Below w.heap.size w w':=by
 have f0:=co hf 0;simp at f0;clear hf;obtain ⟨z,hz⟩:=nmQ (f+k);have hzs:(f:Int)+(k:Int)=(z:Int):=(by omega);rw [←hz] at hk ⊢;have hfz:f≤300:=(by omega);have hkz:k≤300:=(by omega);clear hz;obtain ⟨aol,capl,rfl,h1l,h2l,hatl⟩:=hul.at;obtain ⟨bl,ol,rfl,ybl,cl⟩:=hatl z (by omega);have nl:=co hnl 0;simp at nl;have el:l.getD z 0=l[z]:=(by rw [List.getD_eq_getElem?_getD,List.getElem?_eq_getElem (by omega)];rfl);rw [el];generalize l[z]=xl at cl ⊢;unfold maxLen at h2l;have ynl:=lt_of hnl;clear el hatl hul hnl;obtain ⟨Ll,hLl⟩:=nmQ (l.length);rw [←hLl] at nl h1l hk hl;clear hLl;go_enter Tryz.func107,Tryz.ntmps107;go_wp2;go_ret;exact ⟨rfl,Below.refl _ _⟩
theorem width_any {w:World} {ok okL:Nat→Prop} {aV aI aO aR:Option Addr} {nV cV nI cI nO cO nR cR:Nat} {V:List Sk.Vr} {u:Value} {L:List Int} (hV:HVars ok w (.slice aV nV cV) V) (hL:HInts okL w u L) (hc:∀ x:Int,0≤x→x<(V.length:Int)→Sk.cnt (Sk.vAt V x)≤300) (hl:L.length≤1000000) :
  Calls Tryz.prog 41 #[.agg #[.slice aV nV cV,.slice aI nI cI,.slice aO nO cO,.slice aR nR cR],u] w fun e w'=>e=.returned (.int .i64 (Sk.width V L:Nat))∧Below w.heap.size w w':=by
 obtain ⟨ao,cap,ev,hv1,hv2,-⟩:=hV.at;injection ev with q1 q2 q3;subst q1 q2 q3;unfold maxLen at hv2;obtain ⟨aL,cL,rfl,hl1,hl2,-⟩:=hL.at;unfold maxLen at hl2;obtain ⟨R,hR⟩:=nmQ (Sk.width V L);rw [←hR];have HR:=hide (show R=0+Sk.width V (L.drop 0) by rw [List.drop_zero,Nat.zero_add];exact hR);obtain ⟨nv,hnv⟩:=nmQ (V.length);obtain ⟨n,hn⟩:=nmQ (L.length);rw [←hnv] at hv1 hV ⊢;rw [←hn] at hl1 hl hL ⊢;have b1:Below w.heap.size w (w.alloc (.cells #[.slice aV nv cV,.slice aI nI cI,.slice aO nO cO,.slice aR nR cR] 26 (0,0))):=(Below.refl _ _).alloc (Nat.le_refl _) _;have kS:=heap_new w (.cells #[.slice aV nv cV,.slice aI nI cI,.slice aO nO cO,.slice aR nR cR] 26 (0,0));have HV:=hide (hV.under b1);have HL:=hide (hL.under b1);have HC:=hide hc;have HN:=hide hn;have HNV:=hide hnv;clear hR hV hL hc hn hnv;go_enter Tryz.func41,Tryz.ntmps41;go_upto_region 1 with fail;obtain ⟨w1,hw1⟩:=nmQ (w.alloc (.cells #[.slice aV nv cV,.slice aI nI cI,.slice aO nO cO,.slice aR nR cR] 26 (0,0)));rw [←hw1] at b1 kS HV HL ⊢;clear hw1;go_wp2_with fail;go_loopg [5,10] n (fun k u v wr=>∃ (i a:Nat),i≤n∧k=n-i∧u=.int .i64 (a:Nat)∧v=.int .i64 (i:Nat)∧Hid (R=a+Sk.width V (L.drop i))∧a≤300*i∧Below w1.heap.size w1 wr)
 case atStart=>exact ⟨0,0,Nat.zero_le _,rfl,rfl,rfl,HR,Nat.zero_le _,Below.refl _ _⟩
 case round=>
  clear HR;obtain ⟨i,a,hi,rfl,rfl,rfl,H,ha,hbr⟩:=hrel;by_cases hlt:i<n
  case neg=>
   have hin:i=n:=(by omega);subst hin;have e1:L.drop i=[]:=List.drop_of_length_le (by have:=HN.out;omega);have HZ:=hide (show a=R by rw [H.out,e1];rfl);clear e1 H;go_wp2;go_ret;exact ⟨by rw [HZ.out];rfl,b1.trans (hbr.mono b1.size)⟩
  case pos=>
   have hil:i<L.length:=(by have:=HN.out;omega);have hdr:L.drop i=L[i] :: L.drop (i+1):=List.drop_eq_getElem_cons hil;have hR1:=H.out;rw [hdr] at hR1;unfold Sk.width at hR1;obtain ⟨ao',cap',eqs,-,-,hat2⟩:=(HL.out.under hbr).at;injection eqs with q1 q2 q3;subst q1;obtain ⟨bb,o,rfl,hb,e0⟩:=hat2 i hil;obtain ⟨y,hy⟩:=nmQ (L[i]);rw [←hy] at e0 hR1;have kS1:=(hbr.block _ (lt_of kS)).trans kS;have s0:=co kS1 0;simp at s0;clear hat2 q2 q3 hy hdr H kS1;by_cases h0:0≤y
   case neg=>
    rw [if_neg (by omega),Nat.zero_add] at hR1;have HR1:=hide hR1;have g0:y<0:=(by omega);clear hR1 h0;go_wp2_with fail;go_roundg (n-(i+1))
    case measure=>omega
    case rel=>exact ⟨i+1,a,by omega,rfl,rfl,by go_num,HR1,by omega,hbr⟩
   case pos=>
    obtain ⟨q,rfl⟩:∃ q:Nat,y=(q:Int):=⟨y.toNat,by omega⟩;by_cases h1:q<nv
    case neg=>
     rw [if_neg (by have:=HNV.out;omega),Nat.zero_add] at hR1;have HR1:=hide hR1;have h2:nv≤q:=(by omega);clear hR1 h0 h1;go_wp2_with fail;go_roundg (n-(i+1))
     case measure=>omega
     case rel=>exact ⟨i+1,a,by omega,rfl,rfl,by go_num,HR1,by omega,hbr⟩
    case pos=>
     have hqV:q<V.length:=(by have:=HNV.out;omega);rw [if_pos (by omega)] at hR1;have hcq:=HC.out (q:Int) (by omega) (by omega);have ev:Sk.vAt V (q:Int)=V[q]:=vAt_get hqV;rw [ev] at hR1 hcq;obtain ⟨ao3,cap3,eq3,-,-,hat3⟩:=(HV.out.under hbr).at;injection eq3 with z1 z2 z3;subst z1;obtain ⟨bv,ov,rfl,yv,x0,y0⟩:=hat3 q hqV;generalize V[q]=va at x0 y0 hR1 hcq;have hct:=cellCount_any va;generalize Sk.cnt va=cc at hct hR1 hcq;have HR1:=hide (show R=(a+cc)+Sk.width V (L.drop (i+1)) by rw [hR1];omega);have HCT:=hide hct;clear hat3 z2 z3 ev hR1 hct h0;unfold vv at HCT;go_wp2_with fail;refine (HCT.out _).mono ?_;rintro e w4 ⟨rfl,b4⟩;have B4:=hbr.trans (b4.mono hbr.size);clear HCT x0 y0 s0 e0;go_wp2_with fail;go_roundg (n-(i+1))
     case measure=>omega
     case rel=>exact ⟨i+1,a+cc,by omega,rfl,by go_num,by go_num,HR1,by omega,B4⟩
end Go.Proofs.YtnhmcpnbaajjcaaGreatDoor
namespace Go.Proofs.YtnhmcpnbaajjcaaGreatDoor
open Go Go.RowKit Go.IntWalk
def left (listed:Array Bool):Nat:=listed.toList.count false
theorem left_set {listed:Array Bool} {i:Nat} (h:listed.getD i true=false):left (listed.setIfInBounds i true)+1=left listed:=by
 have hi:i<listed.size:=by
  rcases Nat.lt_or_ge i listed.size with h' | h'
  ·exact h'
  ·simp [Array.getElem?_eq_none h'] at h
 have hv:listed[i]=false:=(by simpa [hi] using h);unfold left;rw [Array.toList_setIfInBounds];have hl:i<listed.toList.length:=(by simpa using hi);have:=List.count_set (a:=true) (b:=false) (l:=listed.toList) hl;rw [this];have hm:0<listed.toList.count false:=List.count_pos_iff.2 (by rw [←hv];simp);have e1:(if (listed.toList[i]==false)=true then 1 else 0)=1:=by
  have:listed.toList[i]=false:=(by simpa using hv);rw [this];rfl
 have e2:(if (true==false)=true then 1 else 0)=0:=rfl;rw [e1,e2];omega
def goesUp (md:Region.Mode) (ops:Array Oper):Bool:=(List.range ops.size).all fun i=>((ops[i]?).map (·.after.all fun e => !Region.binds md e || decide (e.on<i))).getD true
theorem goesUp_ready {md:Region.Mode} {ops:Array Oper} {listed:Array Bool} (h:goesUp md ops=true) (hz:listed.size=ops.size) (hr:Region.ready md ops listed=[]):∀ i,listed.getD i true=true:=by
 intro i
 induction i using Nat.strongRecOn with
 | _ i ih=>
  rcases Nat.lt_or_ge i ops.size with hi | hi
  ·cases hd:listed.getD i true with
   | true=>rfl
   | false=>
    have hg:=List.all_eq_true.1 h i (List.mem_range.2 hi);have ho:ops[i]?=some ops[i]:=(by simp [hi]);rw [ho] at hg;simp only [Option.map_some,Option.getD_some,Array.all_eq_true_iff_forall_mem,Bool.or_eq_true,Bool.not_eq_true',decide_eq_true_eq] at hg;have:i ∈ Region.ready md ops listed:=mem_ready.2 ⟨hd,_,ho,fun e he hb=>by
     rcases hg e he with q | q
     ·rw [hb] at q;cases q
     ·have h1:=ih e.on q
      have h2:e.on<listed.size:=(by omega)
      simpa [h2] using h1⟩
    rw [hr] at this
    cases this
  ·simp [Array.getElem?_eq_none (by omega:listed.size≤i)]
def waits (md:Region.Mode) (o:Oper):List Nat:=(o.after.toList.filter (Region.binds md)).map (·.on)
def also (D:Nat→Bool) (i:Nat):Nat→Bool:=fun j=>j==i || D j
section
variable {P:Program} {ops:Array Oper} {Q:Exit→Act→World→Prop} {md:Region.Mode} {S:World→Prop} {late:Nat→Bool}
def Keeps (P:Program) (md:Region.Mode) (ops:Array Oper) (Q:Exit→Act→World→Prop) (I:(Nat→Bool)→Act→World→Prop) (rs:List Nat):Prop :=
 ∀ i ∈ rs,∀ o,ops[i]?=some o→∀ D a w,I D a w→D i=false→(∀ d ∈ waits md o,D d=true)→wpOp P ops Q i (fun a' w'=>I (also D i) a' w') a w
theorem Keeps.nil {I:(Nat→Bool)→Act→World→Prop}:Keeps P md ops Q I []:=fun _ h=>by cases h
theorem Keeps.skip {I:(Nat→Bool)→Act→World→Prop} {i:Nat} {rs:List Nat} (h:∀ D a w,I D a w→D i=true) (hs:Keeps P md ops Q I rs):Keeps P md ops Q I (i :: rs):=fun j hj=>by
 rcases List.mem_cons.1 hj with rfl | hj
 ·intro o ho D a w hI hD
  rw [h D a w hI] at hD
  cases hD
 ·exact hs j hj
theorem Keeps.cons {I:(Nat→Bool)→Act→World→Prop} {i:Nat} {o:Oper} {rs:List Nat} (ds:List Nat) (ho:ops[i]?=some o) (hg:o.guard=none) (hds:waits md o=ds)
  (h:∀ D a w,I D a w→D i=false→(∀ d ∈ ds,D d=true)→∀ K':Act→World→Prop,Shut (∀ a w,I (also D i) a w→K' a w)→Oper.wp P o a w K' Q)
  (hs:Keeps P md ops Q I rs):Keeps P md ops Q I (i :: rs):=fun j hj=>by
 rcases List.mem_cons.1 hj with rfl | hj
 ·intro o' ho' D a w hI hD hw
  rw [ho] at ho';injection ho' with ho';subst ho';rw [hds] at hw;refine wpOp_step ho (fun K' hK=>?_);rw [if_pos (by unfold Region.wanted;rw [hg])];exact h D a w hI hD hw K' hK
 ·exact hs j hj
theorem wpAnyL_inv' {I:(Nat→Bool)→Act→World→Prop} (hS:∀ D a w,I D a w→S w) (hk:Keeps P md ops Q I (List.range ops.size)) (hu:goesUp md ops=true) (he:∀ D a w,I D a w→(∀ i,D i=true)→Q .normal a w) :
  ∀ (fuel:Nat) (listed:Array Bool) (a:Act) (w:World),left listed≤fuel→listed.size=ops.size→I (fun j=>listed.getD j true) a w→wpAnyL P md ops Q S late fuel listed a w
 | 0,listed,a,w,hl,hz,h=>by
  have hr:Region.ready md ops listed=[]:=by
   rcases hc:Region.ready md ops listed with _ | ⟨i,l⟩
   ·rfl
   ·have hm:i ∈ Region.ready md ops listed:=by rw [hc];simp
    have:=left_set (mem_ready.1 hm).1;omega
  exact ⟨hr,he _ _ _ h (goesUp_ready hu hz hr)⟩
 | fuel+1,listed,a,w,hl,hz,h=>by
  refine ⟨fun hr=>he _ _ _ h (goesUp_ready hu hz hr),fun i hi=>?_⟩;obtain ⟨hd,o,ho,hall⟩:=mem_ready.1 hi;have hlt:i<ops.size:=(Array.getElem?_eq_some_iff.1 ho).1;refine wpOp_mono (fun a' w' h'=>?_) (hk i (List.mem_range.2 hlt) o ho _ a w h hd fun d hdm=>?_)
  ·have e:also (fun j=>listed.getD j true) i=fun j=>(listed.setIfInBounds i true).getD j true:=by
    funext j
    unfold also;by_cases hij:j=i
    ·subst hij
     have:j<listed.size:=(by omega);simp [this]
    ·rw [getD_set_ne true (Ne.symm hij)]
     simp [hij]
   rw [e] at h';exact ⟨fun _=>hS _ _ _ h',wpAnyL_inv' hS hk hu he fuel _ a' w' (by have:=left_set hd;omega) (by simpa using hz) h'⟩
  ·unfold waits at hdm
   obtain ⟨e,hem,rfl⟩:=List.mem_map.1 hdm;obtain ⟨h1,h2⟩:=List.mem_filter.1 hem;have:=hall e (by simpa using h1) h2;have hlt2:e.on<listed.size:=by
    rcases Nat.lt_or_ge e.on listed.size with h' | h'
    ·exact h'
    ·simp [Array.getElem?_eq_none h'] at this
   simpa [hlt2] using this
theorem wpAnyL_inv {fuel:Nat} {listed:Array Bool} {a:Act} {w:World} (I:Act→(Nat→Bool)→Act→World→Prop) (rs:List Nat) (hrs:List.range ops.size=rs) (hl:Nat.ble (left listed) fuel=true) (hz:listed.size=ops.size) (hu:goesUp md ops=true)
  (h0:I a (fun j=>listed.getD j true) a w) (hS:∀ D a' w',I a D a' w'→S w') (hk:Keeps P md ops Q (I a) rs) (he:∀ D a' w',I a D a' w'→(∀ i,D i=true)→Q .normal a' w'):wpAnyL P md ops Q S late fuel listed a w:=
 wpAnyL_inv' hS (hrs ▸ hk) hu he fuel listed a w (Nat.le_of_ble_eq_true hl) hz h0
end
def Blk (w:World) (B:Nat) (t:Value) (ty:TypeId) (v:Value):Prop:=∃ b,t=.pointer (some ⟨b,0,none⟩)∧B≤b∧w.heap[b]?=some (.cells #[v] ty (0,0))
theorem Blk.grow {w w':World} {B:Nat} {t:Value} {ty:TypeId} {v:Value} (h:Blk w B t ty v) (hb:Below w.heap.size w w'):Blk w' B t ty v:=by
 obtain ⟨b,e,h1,h2⟩:=h;exact ⟨b,e,h1,(hb.block _ (lt_of h2)).trans h2⟩
theorem Blk.new {w:World} {B:Nat} (hB:B≤w.heap.size) (z:Value) (ty:TypeId):Blk (w.alloc (.cells #[z] ty (0,0))) B (.pointer (some ⟨w.heap.size,0,none⟩)) ty z:=⟨_,rfl,hB,heap_new _ _⟩
theorem Blk.ne_new {w:World} {B:Nat} {t:Value} {ty:TypeId} {v:Value} (h:Blk w B t ty v):t≠.pointer (some ⟨w.heap.size,0,none⟩):=by
 obtain ⟨b,rfl,_,h2⟩:=h;intro e;injection e with e;injection e with e;injection e with e;rw [e] at h2;exact absurd (lt_of h2) (Nat.lt_irrefl _)
theorem Blk.set {w:World} {B b:Nat} {z:Value} {ty:TypeId} (hb:B≤b) (k:w.heap[b]?=some (.cells #[z] ty (0,0))) (u:Value):Blk (w.setCell ⟨b,0,none⟩ u) B (.pointer (some ⟨b,0,none⟩)) ty u:=⟨_,rfl,hb,by have:=set_in k 0 u;simpa using this⟩
theorem Blk.set_other {w:World} {B b:Nat} {t:Value} {ty:TypeId} {v:Value} (h:Blk w B t ty v) (ne:t≠.pointer (some ⟨b,0,none⟩)) (u:Value):Blk (w.setCell ⟨b,0,none⟩ u) B t ty v:=by
 obtain ⟨c,rfl,h1,h2⟩:=h;exact ⟨c,rfl,h1,keep_set (p:=⟨b,0,none⟩) h2 (fun q=>ne (by rw [show b=c from q])) u⟩
theorem Blk.off {w:World} {B:Nat} {t:Value} {ty:TypeId} {v v' z:Value} {d d':Bool} (h:Blk w B t ty (if d=true then v else z)) (e:d=false) (e':d'=false):Blk w B t ty (if d'=true then v' else z):=by
 subst e e'
 simpa using h
def SlI (B:Nat) (w:World) (t:Value) (l:List Int):Prop:=(∃ p q c,t=.slice p q c)∧HInts (fun i=>i<B) w t l
theorem SlI.keep {B B1:Nat} {w w':World} {t:Value} {l:List Int} (h:SlI B w t l) (hb:Below B1 w w') (hB:B≤B1):SlI B w' t l:=⟨h.1,h.2.keep hb.size (fun i hi _=>hb.block i (Nat.lt_of_lt_of_le hi hB))⟩
end Go.Proofs.YtnhmcpnbaajjcaaGreatDoor
