import Derived.Test.YtnhmcpnbaajjcaaGreatDoorC33
import Derived.Deep.Cut
import Derived.Deep.LoopGhost
import Derived.Ground.NamesProg
import Derived.IntWalk
import Derived.Laws.Cover1
import Derived.Laws.EntriesVeiled
import Derived.Laws.Externs
import Derived.Lib.Hide
import Derived.Lib.MakeNoZero
import Derived.Lib.SlBuf
import Derived.Shelf.Bytes.SlSmallAll
import Derived.Shelf.Lay
import Derived.WalkKit
import Derived.WalkSpells
set_option linter.unusedVariables false
set_option linter.unusedSimpArgs false
set_option maxHeartbeats 64000000
set_option maxRecDepth 100000
namespace Go.Proofs.YtnhmcpnbaajjcaaGreatDoor
open Go.RowKit Go.IntWalk
theorem eg131:∀ args w,(callFunc 131 args).run Tryz.prog w=.ok (.enter 131 args) w:=enters_of Tryz.func131 (by kernel_rfl) rfl
theorem eg132:∀ args w,(callFunc 132 args).run Tryz.prog w=.ok (.enter 132 args) w:=enters_of Tryz.func132 (by kernel_rfl) rfl
theorem eg101:∀ args w,(callFunc 101 args).run Tryz.prog w=.ok (.enter 101 args) w:=enters_of Tryz.func101 (by kernel_rfl) rfl
theorem eg103:∀ args w,(callFunc 103 args).run Tryz.prog w=.ok (.enter 103 args) w:=enters_of Tryz.func103 (by kernel_rfl) rfl
theorem eg107:∀ args w,(callFunc 107 args).run Tryz.prog w=.ok (.enter 107 args) w:=enters_of Tryz.func107 (by kernel_rfl) rfl
theorem eg135:∀ args w,(callFunc 135 args).run Tryz.prog w=.ok (.enter 135 args) w:=enters_of Tryz.func135 (by kernel_rfl) rfl
theorem eg126:∀ args w,(callFunc 126 args).run Tryz.prog w=.ok (.enter 126 args) w:=enters_of Tryz.func126 (by kernel_rfl) rfl
theorem eg127:∀ args w,(callFunc 127 args).run Tryz.prog w=.ok (.enter 127 args) w:=enters_of Tryz.func127 (by kernel_rfl) rfl
theorem zAw {w:World} {okl:Nat->Prop} {pb ob nb:Nat} {p o:Int} {u:Value} {l:List Int} (hp:w.heap[pb]?=some (.cells #[.int .i64 p] 2 (0,0))) (ho:w.heap[ob]?=some (.cells #[.int .i64 o] 2 (0,0))) (hnl:w.heap[nb]?=some (.cells #[u] 52 (0,0))) (hul:HInts okl w u l) (k:Nat) (hk:k<l.length) :
  Calls Tryz.prog 131 #[.int .i64 (k:Int),.pointer (some ⟨pb,0,none⟩),.pointer (some ⟨ob,0,none⟩),.pointer (some ⟨nb,0,none⟩)] w fun e w'=>e=.returned (.int .i64 (if (k:Int)=p then o else l.getD k 0))/\Below w.heap.size w w':=by
 have p0:=coQ hp 0;have o0:=coQ ho 0;simp at p0 o0;clear hp ho;obtain ⟨aol,capl,rfl,h1l,h2l,hatl⟩:=hul.at;obtain ⟨bl,ol,rfl,ybl,cl⟩:=hatl k (by omega);have nl:=coQ hnl 0;simp at nl;have el:l.getD k 0=l[k]:=(by rw [List.getD_eq_getElem?_getD,List.getElem?_eq_getElem (by omega)];rfl);rw [el];generalize l[k]=xl at cl ⊢;unfold maxLen at h2l;have ynl:=zG hnl;clear el hatl hul hnl;obtain ⟨Ll,hLl⟩:=nmQ (l.length);rw [<-hLl] at nl h1l hk;clear hLl;by_cases h:(k:Int)=p
 ·rw [if_pos h]
  have e:((k:Int)==p)=true:=(by simp [h]);clear h;go_enter Tryz.func131,Tryz.ntmps131;go_wp2;go_ret;exact ⟨rfl,Below.refl _ _⟩
 ·rw [if_neg h]
  have e:((k:Int)==p)=false:=(by simp [h]);clear h;go_enter Tryz.func131,Tryz.ntmps131;go_wp2;go_ret;exact ⟨rfl,Below.refl _ _⟩
theorem zAL {w:World} {okl okr:Nat->Prop} {nb mb:Nat} {u v:Value} {l r:List Int} (hnl:w.heap[nb]?=some (.cells #[u] 52 (0,0))) (hul:HInts okl w u l) (hnr:w.heap[mb]?=some (.cells #[v] 52 (0,0))) (hur:HInts okr w v r) (hm:l.length<=300) (k:Nat) (hk:k<l.length+r.length) (hk2:k<=1000) :
  Calls Tryz.prog 132 #[.int .i64 (k:Int),.pointer (some ⟨nb,0,none⟩),.pointer (some ⟨mb,0,none⟩)] w fun e w'=>e=.returned (.int .i64 (if k<l.length then l.getD k 0 else r.getD (k-l.length) 0))/\Below w.heap.size w w':=by
 by_cases h:k<l.length
 case pos=>
  rw [if_pos h];clear hur hnr hk;obtain ⟨aol,capl,rfl,h1l,h2l,hatl⟩:=hul.at;obtain ⟨bl,ol,rfl,ybl,cl⟩:=hatl k (by omega);have nl:=coQ hnl 0;simp at nl;have el:l.getD k 0=l[k]:=(by rw [List.getD_eq_getElem?_getD,List.getElem?_eq_getElem (by omega)];rfl);rw [el];generalize l[k]=xl at cl ⊢;unfold maxLen at h2l;have ynl:=zG hnl;clear el hatl hul hnl;obtain ⟨Ll,hLl⟩:=nmQ (l.length);rw [<-hLl] at nl h1l h hm;clear hLl;go_enter Tryz.func132,Tryz.ntmps132;go_wp2;go_ret;exact ⟨rfl,Below.refl _ _⟩
 case neg=>
  rw [if_neg h];obtain ⟨aol,capl,rfl,h1l,h2l,-⟩:=hul.at;have nl:=coQ hnl 0;simp at nl;unfold maxLen at h2l;obtain ⟨z,hz⟩:∃ z,k=l.length+z:=⟨k-l.length,by omega⟩;have e3:k-l.length=z:=(by omega);rw [e3];have hzr:z<r.length:=(by omega);have hzs:(k:Int)-(l.length:Int)=(z:Int):=(by omega);clear hul hnl e3 hz hk;have hlk:l.length<=k:=(by omega);clear h;generalize l.length=Ll at *;obtain ⟨aor,capr,rfl,h1r,h2r,hatr⟩:=hur.at;obtain ⟨br,orr,rfl,ybr,cr⟩:=hatr z (by omega);have nr:=coQ hnr 0;simp at nr;have er:r.getD z 0=r[z]:=(by rw [List.getD_eq_getElem?_getD,List.getElem?_eq_getElem (by omega)];rfl);rw [er];generalize r[z]=xr at cr ⊢;unfold maxLen at h2r;have ynr:=zG hnr;clear er hatr hur hnr;obtain ⟨Lr,hLr⟩:=nmQ (r.length);rw [<-hLr] at nr h1r hzr;clear hLr;have hlt:((k:Int)<(Ll:Int))=False:=(by simp;omega);go_enter Tryz.func132,Tryz.ntmps132;go_wp2;go_ret;exact ⟨rfl,Below.refl _ _⟩
theorem cell1_any {w:World} {rb:Nat} {op K out n:Int} {aA aE:Option Addr} {nA cA nE cE:Nat} {okl:Nat->Prop} {mb nb k:Nat} {u:Value} {l:List Int} (kM:w.heap[mb]?=some (.cells #[.pointer (some ⟨rb,0,none⟩),.int .i64 op,.int .i64 K,.int .i64 out,.int .i64 n,.slice aA nA cA,.slice aE nE cE] 110 (0,0))) (hnl:w.heap[nb]?=some (.cells #[u] 52 (0,0))) (hul:HInts okl w u l) (hk:k<l.length) :
  Calls Tryz.prog 101 #[.int .i64 (k:Int),.pointer (some ⟨mb,0,none⟩),.pointer (some ⟨nb,0,none⟩)] w fun e w'=>e=.returned (.int .i64 (apT K (l.getD k 0) 0))/\Below w.heap.size w w':=by
 have m2:=coQ kM 2;simp at m2;have yM:=zG kM;clear kM;obtain ⟨aol,capl,rfl,h1l,h2l,hatl⟩:=hul.at;obtain ⟨bl,ol,rfl,ybl,cl⟩:=hatl k (by omega);have nl:=coQ hnl 0;simp at nl;have el:l.getD k 0=l[k]:=(by rw [List.getD_eq_getElem?_getD,List.getElem?_eq_getElem (by omega)];rfl);rw [el];generalize l[k]=xl at cl ⊢;unfold maxLen at h2l;have ynl:=zG hnl;clear el hatl hul hnl;obtain ⟨Ll,hLl⟩:=nmQ (l.length);rw [<-hLl] at nl h1l hk;clear hLl;go_enter Tryz.func101,Tryz.ntmps101;go_upto_region 1 with fail;refine zK (fun w'=>Below w.heap.size w w') (fun _=>false) (by kernel_rfl) ?_;have hH0:Below w.heap.size w w.drew:=(Below.refl _ _).drew;generalize w.drew=wd0 at hH0 ⊢;refine' tkR 0 5 hH0 ?o1
 refine' tkR 1 6 hH0 ?o2
 refine' tkQ 2 7 hH0 ?hyv ?o3
 case hyv=>
  intro wz hSw;have zc0:=(hSw.cell (p:=⟨mb,2,none⟩) yM).trans m2;have zc1:=(hSw.cell (p:=⟨nb,0,none⟩) ynl).trans nl;have zc2:=(hSw.cell (p:=⟨bl,ol+k,none⟩) ybl).trans cl;go_simp
  try rfl
 try simp only [Act.put,sT,sZ,sS]
 refine' tkQ 3 8 hH0 ?hyv ?o4
 case hyv=>
  intro wz hSw;have zc0:=(hSw.cell (p:=⟨mb,2,none⟩) yM).trans m2;have zc1:=(hSw.cell (p:=⟨nb,0,none⟩) ynl).trans nl;have zc2:=(hSw.cell (p:=⟨bl,ol+k,none⟩) ybl).trans cl;go_simp
  try rfl
 try simp only [Act.put,sT,sZ,sS]
 refine' tkR 4 9 hH0 ?o5
 refine' tkR 5 10 hH0 ?o6
 refine' tkQ 6 11 hH0 ?hyv ?o7
 case hyv=>
  intro wz hSw;have zc0:=(hSw.cell (p:=⟨mb,2,none⟩) yM).trans m2;have zc1:=(hSw.cell (p:=⟨nb,0,none⟩) ynl).trans nl;have zc2:=(hSw.cell (p:=⟨bl,ol+k,none⟩) ybl).trans cl;go_simp
  try rfl
 try simp only [Act.put,sT,sZ,sS]
 refine tnQ 7 (fun K hK=>?_);go_simp;refine (qE _ _ _ wd0).mono ?_;rintro eq wd1 ⟨rfl,bq1⟩;have hH1:Below w.heap.size w wd1:=hH0.trans (bq1.mono hH0.size);refine hK.out _ _ (fun _=>hH1) ?_;clear hK K
 try simp only [Act.put,sT,sZ,sS]
 refine' tkR 8 4 hH1 ?o8
 refine zJ (by kernel_rfl) ?_ _;go_wp2;go_ret;exact ⟨rfl,hH1⟩
theorem cell2_any {w:World} {rb:Nat} {op K out n:Int} {aA aE:Option Addr} {nA cA nE cE:Nat} {okl okr:Nat->Prop} {mb nb sb k:Nat} {u v:Value} {l r:List Int} (kM:w.heap[mb]?=some (.cells #[.pointer (some ⟨rb,0,none⟩),.int .i64 op,.int .i64 K,.int .i64 out,.int .i64 n,.slice aA nA cA,.slice aE nE cE] 110 (0,0))) (hnl:w.heap[nb]?=some (.cells #[u] 52 (0,0))) (hul:HInts okl w u l) (hnr:w.heap[sb]?=some (.cells #[v] 52 (0,0))) (hur:HInts okr w v r) (hk:k<l.length) (hkr:k<r.length) :
  Calls Tryz.prog 103 #[.int .i64 (k:Int),.pointer (some ⟨mb,0,none⟩),.pointer (some ⟨nb,0,none⟩),.pointer (some ⟨sb,0,none⟩)] w fun e w'=>e=.returned (.int .i64 (apT K (l.getD k 0) (r.getD k 0)))/\Below w.heap.size w w':=by
 have m2:=coQ kM 2;simp at m2;have yM:=zG kM;clear kM;obtain ⟨aol,capl,rfl,h1l,h2l,hatl⟩:=hul.at;obtain ⟨bl,ol,rfl,ybl,cl⟩:=hatl k (by omega);have nl:=coQ hnl 0;simp at nl;have el:l.getD k 0=l[k]:=(by rw [List.getD_eq_getElem?_getD,List.getElem?_eq_getElem (by omega)];rfl);rw [el];generalize l[k]=xl at cl ⊢;unfold maxLen at h2l;have ynl:=zG hnl;clear el hatl hul hnl;obtain ⟨aor,capr,rfl,h1r,h2r,hatr⟩:=hur.at;obtain ⟨br,orr,rfl,ybr,cr⟩:=hatr k (by omega);have nr:=coQ hnr 0;simp at nr;have er:r.getD k 0=r[k]:=(by rw [List.getD_eq_getElem?_getD,List.getElem?_eq_getElem (by omega)];rfl);rw [er];generalize r[k]=xr at cr ⊢;unfold maxLen at h2r;have ynr:=zG hnr;clear er hatr hur hnr;obtain ⟨Ll,hLl⟩:=nmQ (l.length);rw [<-hLl] at nl h1l hk;clear hLl;obtain ⟨Lr,hLr⟩:=nmQ (r.length);rw [<-hLr] at nr h1r hkr;clear hLr;go_enter Tryz.func103,Tryz.ntmps103;go_upto_region 1 with fail;refine zK (fun w'=>Below w.heap.size w w') (fun _=>false) (by kernel_rfl) ?_;have hH0:Below w.heap.size w w.drew:=(Below.refl _ _).drew;generalize w.drew=wd0 at hH0 ⊢;refine' tkR 0 6 hH0 ?o9
 refine' tkR 1 7 hH0 ?o10
 refine' tkQ 2 8 hH0 ?hyv ?o11
 case hyv=>
  intro wz hSw;have zc0:=(hSw.cell (p:=⟨mb,2,none⟩) yM).trans m2;have zc1:=(hSw.cell (p:=⟨nb,0,none⟩) ynl).trans nl;have zc2:=(hSw.cell (p:=⟨bl,ol+k,none⟩) ybl).trans cl;have zc3:=(hSw.cell (p:=⟨sb,0,none⟩) ynr).trans nr;have zc4:=(hSw.cell (p:=⟨br,orr+k,none⟩) ybr).trans cr;go_simp
  try rfl
 try simp only [Act.put,sT,sZ,sS]
 refine' tkQ 3 9 hH0 ?hyv ?o12
 case hyv=>
  intro wz hSw;have zc0:=(hSw.cell (p:=⟨mb,2,none⟩) yM).trans m2;have zc1:=(hSw.cell (p:=⟨nb,0,none⟩) ynl).trans nl;have zc2:=(hSw.cell (p:=⟨bl,ol+k,none⟩) ybl).trans cl;have zc3:=(hSw.cell (p:=⟨sb,0,none⟩) ynr).trans nr;have zc4:=(hSw.cell (p:=⟨br,orr+k,none⟩) ybr).trans cr;go_simp
  try rfl
 try simp only [Act.put,sT,sZ,sS]
 refine' tkR 4 10 hH0 ?o13
 refine' tkR 5 11 hH0 ?o14
 refine' tkQ 6 12 hH0 ?hyv ?o15
 case hyv=>
  intro wz hSw;have zc0:=(hSw.cell (p:=⟨mb,2,none⟩) yM).trans m2;have zc1:=(hSw.cell (p:=⟨nb,0,none⟩) ynl).trans nl;have zc2:=(hSw.cell (p:=⟨bl,ol+k,none⟩) ybl).trans cl;have zc3:=(hSw.cell (p:=⟨sb,0,none⟩) ynr).trans nr;have zc4:=(hSw.cell (p:=⟨br,orr+k,none⟩) ybr).trans cr;go_simp
  try rfl
 try simp only [Act.put,sT,sZ,sS]
 refine' tkQ 7 13 hH0 ?hyv ?o16
 case hyv=>
  intro wz hSw;have zc0:=(hSw.cell (p:=⟨mb,2,none⟩) yM).trans m2;have zc1:=(hSw.cell (p:=⟨nb,0,none⟩) ynl).trans nl;have zc2:=(hSw.cell (p:=⟨bl,ol+k,none⟩) ybl).trans cl;have zc3:=(hSw.cell (p:=⟨sb,0,none⟩) ynr).trans nr;have zc4:=(hSw.cell (p:=⟨br,orr+k,none⟩) ybr).trans cr;go_simp
  try rfl
 try simp only [Act.put,sT,sZ,sS]
 refine' tkR 8 14 hH0 ?o17
 refine' tkR 9 15 hH0 ?o18
 refine' tkQ 10 16 hH0 ?hyv ?o19
 case hyv=>
  intro wz hSw;have zc0:=(hSw.cell (p:=⟨mb,2,none⟩) yM).trans m2;have zc1:=(hSw.cell (p:=⟨nb,0,none⟩) ynl).trans nl;have zc2:=(hSw.cell (p:=⟨bl,ol+k,none⟩) ybl).trans cl;have zc3:=(hSw.cell (p:=⟨sb,0,none⟩) ynr).trans nr;have zc4:=(hSw.cell (p:=⟨br,orr+k,none⟩) ybr).trans cr;go_simp
  try rfl
 try simp only [Act.put,sT,sZ,sS]
 refine tnQ 11 (fun K hK=>?_);go_simp;refine (qE _ _ _ wd0).mono ?_;rintro eq wd1 ⟨rfl,bq1⟩;have hH1:Below w.heap.size w wd1:=hH0.trans (bq1.mono hH0.size);refine hK.out _ _ (fun _=>hH1) ?_;clear hK K
 try simp only [Act.put,sT,sZ,sS]
 refine' tkR 12 5 hH1 ?o20
 refine zJ (by kernel_rfl) ?_ _;go_wp2;go_ret;exact ⟨rfl,hH1⟩
theorem cell3_any {w:World} {okl:Nat->Prop} {nb fb:Nat} {u:Value} {l:List Int} {f:Nat} (hnl:w.heap[nb]?=some (.cells #[u] 52 (0,0))) (hul:HInts okl w u l) (hf:w.heap[fb]?=some (.cells #[.int .i64 (f:Int)] 3 (0,0))) (k:Nat) (hk:f+k<l.length) (hl:l.length<=300) :
  Calls Tryz.prog 107 #[.int .i64 (k:Int),.pointer (some ⟨nb,0,none⟩),.pointer (some ⟨fb,0,none⟩)] w fun e w'=>e=.returned (.int .i64 (l.getD (f+k) 0))/\Below w.heap.size w w':=by
 have f0:=coQ hf 0;simp at f0;clear hf;obtain ⟨z,hz⟩:=nmQ (f+k);have hzs:(f:Int)+(k:Int)=(z:Int):=(by omega);rw [<-hz] at hk ⊢;have hfz:f<=300:=(by omega);have hkz:k<=300:=(by omega);clear hz;obtain ⟨aol,capl,rfl,h1l,h2l,hatl⟩:=hul.at;obtain ⟨bl,ol,rfl,ybl,cl⟩:=hatl z (by omega);have nl:=coQ hnl 0;simp at nl;have el:l.getD z 0=l[z]:=(by rw [List.getD_eq_getElem?_getD,List.getElem?_eq_getElem (by omega)];rfl);rw [el];generalize l[z]=xl at cl ⊢;unfold maxLen at h2l;have ynl:=zG hnl;clear el hatl hul hnl;obtain ⟨Ll,hLl⟩:=nmQ (l.length);rw [<-hLl] at nl h1l hk hl;clear hLl;go_enter Tryz.func107,Tryz.ntmps107;go_wp2;go_ret;exact ⟨rfl,Below.refl _ _⟩
def Tells (w w':World) (v:Value) (g:Nat->Int) (n:Nat):Prop:=∃ (N:Nat) (bs cs:Array Value) (J:Nat->World->Prop) (S:List Nat),v=.func (.func N) bs cs/\(∀ args W,(callFunc N args).run Tryz.prog W=.ok (.enter N args) W)/\J 0 w'/\(∀ b ∈ S,w.heap.size<=b/\b<w'.heap.size)/\(∀ k W W',J k W->w'.heap.size<=W.heap.size->Below w'.heap.size W W'->J k W')/\(∀ k W,k<n->w'.heap.size<=W.heap.size->J k W->Calls Tryz.prog N (bs++#[.int .i64 (k:Int)]++cs) W fun e W'=>e=.returned (.int .i64 (g k))/\J (k+1) W'/\Aside S W.heap.size W W')
theorem Tells.of {w w':World} {N:Nat} {bs cs:Array Value} {g:Nat->Int} {n:Nat} (eg:∀ args W,(callFunc N args).run Tryz.prog W=.ok (.enter N args) W) (h:∀ k W,k<n->Below w'.heap.size w' W->Calls Tryz.prog N (bs++#[.int .i64 (k:Int)]++cs) W fun e W'=>e=.returned (.int .i64 (g k))/\Below W.heap.size W W'):Tells w w' (.func (.func N) bs cs) g n :=
 ⟨N,bs,cs,fun _ W=>Below w'.heap.size w' W,[],rfl,eg,Below.refl _ _,(fun _ h=>by cases h),(fun k W W' h _ h2=>h.trans h2),fun k W hk _ hJ=>(h k W hk hJ).mono fun e W' ⟨he,hb⟩=>⟨he,hJ.trans (hb.mono hJ.size),aside hb⟩⟩
theorem Tells.since {w0 w w':World} {v:Value} {g:Nat->Int} {n:Nat} (h:Tells w w' v g n) (hb:w0.heap.size<=w.heap.size):Tells w0 w' v g n:=by
 obtain ⟨N,bs,cs,J,S,rfl,eg,h0,hS,hJ,hs⟩:=h;exact ⟨N,bs,cs,J,S,rfl,eg,h0,fun b hb2=>⟨Nat.le_trans hb (hS b hb2).1,(hS b hb2).2⟩,hJ,hs⟩
theorem Tells.same {w w':World} {v:Value} {g g':Nat->Int} {n n':Nat} (h:Tells w w' v g n) (hn:n'<=n) (e:∀ k,k<n'->g k=g' k):Tells w w' v g' n':=by
 obtain ⟨N,bs,cs,J,S,rfl,eg,h0,hS,hJ,hs⟩:=h;exact ⟨N,bs,cs,J,S,rfl,eg,h0,hS,hJ,fun k W hk hz hj=>by rw [<-e k hk];exact hs k W (Nat.lt_of_lt_of_le hk hn) hz hj⟩
def CellPost (w w':World) (e:Ending) (g:Nat->Int) (N:Nat):Prop:=∃ v,e=.returned v/\Tells w w' v g N/\Below w.heap.size w w'
theorem CellPost.same {w w':World} {e:Ending} {g g':Nat->Int} {N:Nat} (h:CellPost w w' e g N) (q:∀ k,k<N->g k=g' k):CellPost w w' e g' N:=by
 obtain ⟨v,rfl,h1,h2⟩:=h;exact ⟨v,rfl,h1.same zL q,h2⟩
theorem xN {B B2:Nat} {w w':World} {u:Value} {l:List Int} (h:HInts (fun i=>i<B) w u l) (hb:Below B2 w w') (hB:B<=B2):HInts (fun i=>i<B) w' u l:=h.keep hb.size (fun i hi _=>hb.block i (Nat.lt_of_lt_of_le hi hB))
theorem xV {w w':World} {nb:Nat} {n:Int} {N:Nat} (hn:w'.heap[nb]?=some (.cells #[.int .i64 n] 2 (0,0))):Tells w w' (.func (.func 126) #[] #[.pointer (some ⟨nb,0,none⟩)]) (fun _=>n) N :=
 Tells.of eg126 fun k W _ hb=>always1_any ((hb.block _ (zG hn)).trans hn) k
theorem qD {w w':World} {B nb:Nat} {u:Value} {l:List Int} {N:Nat} (hn:w'.heap[nb]?=some (.cells #[u] 52 (0,0))) (hu:HInts (fun i=>i<B) w' u l) (hB:B<=w'.heap.size) (hN:N<=l.length):Tells w w' (.func (.func 127) #[] #[.pointer (some ⟨nb,0,none⟩)]) (fun k=>l.getD k 0) N :=
 Tells.of eg127 fun k W hk hb=>vD ((hb.block _ (zG hn)).trans hn) (xN hu hb hB) k (Nat.lt_of_lt_of_le hk hN)
def FoldJ (w':World) (vb:Nat) (f:Nat->Int) (k:Nat) (W:World):Prop:=Aside [vb] w'.heap.size w' W/\W.heap[vb]?=some (.cells #[.int .i64 (f k)] 2 (0,0))
theorem FoldJ.keep {w':World} {vb:Nat} {f:Nat->Int} (hv:vb<w'.heap.size) (k:Nat) (W W':World) (h:FoldJ w' vb f k W) (hb:Below w'.heap.size W W'):FoldJ w' vb f k W':=⟨h.1.trans (aside hb) zL,(hb.block _ hv).trans h.2⟩
theorem vX {w:World} {rb:Nat} {op K out n:Int} {aA aE:Option Addr} {nA cA nE cE:Nat} {w':World} {N:Nat} {bs cs:Array Value} {v:Int} {vb:Nat} {y:Nat->Int} {L:Nat} (hs:SoFarAt w w' rb op K out n aA aE nA cA nE cE N bs cs v vb) (eg:∀ args W,(callFunc N args).run Tryz.prog W=.ok (.enter N args) W) (h:∀ k W,k<L->Below w.heap.size w W->Calls Tryz.prog N (bs++#[.int .i64 (k:Int)]++cs) W fun e W'=>e=.returned (.int .i64 (y k))/\Below W.heap.size W W') (k:Nat) (W:World) (hk:k<L) (hJ:FoldJ w' vb (Sk.foldV K y v) k W) :
  Calls Tryz.prog 146 (#[]++#[.int .i64 (k:Int)]++#[.pointer (some ⟨w.heap.size,0,none⟩),.pointer (some ⟨vb,0,none⟩),.pointer (some ⟨w.heap.size+1,0,none⟩)]) W fun e W'=>e=.returned (.int .i64 (Sk.foldV K y v (k+1)))/\FoldJ w' vb (Sk.foldV K y v) (k+1) W'/\Aside [vb] W.heap.size W W':=by
 obtain ⟨kM,kF,kV,hvb,hb⟩:=hs;obtain ⟨ha,hV⟩:=hJ;have b0:Below w.heap.size w' W:=(ha.mono hb.size).below (fun q hq=>by simp at hq;omega);refine (soFar1_any (w:=W) (k:=k) (y:=y k) eg (ha.keep kM (zG kM) (by simp;omega)) hV (ha.keep kF (zG kF) (by simp;omega)) (fun W2 h2=>h k W2 hk ((hb.trans b0).trans (h2.mono (Nat.le_trans hb.size b0.size))))).mono ?_;rintro e W' ⟨rfl,hV',ha'⟩;exact ⟨rfl,⟨ha.trans ha' ha.size,hV'⟩,ha'⟩
theorem zAn {w:World} {rb:Nat} {op K out n:Int} {aA aE:Option Addr} {nA cA nE cE:Nat} {w0 w':World} {N:Nat} {bs cs:Array Value} {v:Int} {vb:Nat} {y:Nat->Int} {L:Nat} (h0:w0.heap.size<=w.heap.size) (hs:SoFarAt w w' rb op K out n aA aE nA cA nE cE N bs cs v vb) (eg:∀ args W,(callFunc N args).run Tryz.prog W=.ok (.enter N args) W) (h:∀ k W,k<L->Below w.heap.size w W->Calls Tryz.prog N (bs++#[.int .i64 (k:Int)]++cs) W fun e W'=>e=.returned (.int .i64 (y k))/\Below W.heap.size W W') :
  Tells w0 w' (.func (.func 146) #[] #[.pointer (some ⟨w.heap.size,0,none⟩),.pointer (some ⟨vb,0,none⟩),.pointer (some ⟨w.heap.size+1,0,none⟩)]) (fun k=>Sk.foldV K y v (k+1)) L:=by
 have hs2:=hs;obtain ⟨kM,kF,kV,hvb,hb⟩:=hs2;exact ⟨146,#[],_,FoldJ w' vb (Sk.foldV K y v),[vb],rfl,eg146,⟨Aside.refl _,kV⟩,fun b hq=>by simp at hq;subst hq;exact ⟨by omega,zG kV⟩,fun k W W' hJ _ hw=>hJ.keep (zG kV) k W W' hw,fun k W hk _ hJ=>vX hs eg h k W hk hJ⟩
theorem zAo (K:Int) (y:Nat->Int) (v:Int):∀ n,0<n->Sk.lastG (fun k=>Sk.foldV K y v (k+1)) n=Sk.foldV K y v n
 | 0,h=>absurd h (by decide)
 | n+1,_=>rfl
end Go.Proofs.YtnhmcpnbaajjcaaGreatDoor
