import Derived.Test.YtoldepieaafakaaGreatDoorC42
import Derived.Deep.Cut
import Derived.Deep.LoopGhost
import Derived.Ground.NamesProg
import Derived.IntWalk
import Derived.Laws.Cover1
import Derived.Laws.EntriesVeiled
import Derived.Laws.Externs
import Derived.Lib.Hide
import Derived.Lib.MakeNoZero
import Derived.Lib.SlBuf
import Derived.Shelf.Bytes.SlSmallAll
import Derived.Shelf.Lay
import Derived.WalkKit
import Derived.WalkSpells
set_option linter.unusedVariables false
set_option linter.unusedSimpArgs false
set_option maxHeartbeats 64000000
set_option maxRecDepth 100000
namespace Go.Proofs.YtoldepieaafakaaGreatDoor
open Go.RowKit Go.IntWalk
theorem qM (v:Sk.Vr) (w:World):Calls Tryz.prog 24 #[vv v] w fun e w'=>e=.returned (.int .i64 (Sk.cnt v:Nat))/\Below w.heap.size w w':=by
 have e:((Sk.cnt v:Nat):Int)=max 1 v.n:=(by unfold Sk.cnt;omega);rw [e];go_enter Tryz.func24,Tryz.ntmps24;go_wp2;go_ret;exact ⟨rfl,(Below.refl _ _).alloc zL _⟩
theorem vH {w:World} {ok okL:Nat->Prop} {aV aI aO aR:Option Addr} {nV cV nI cI nO cO nR cR:Nat} {V:List Sk.Vr} {u:Value} {L:List Int} (hV:HVars ok w (.slice aV nV cV) V) (hL:HInts okL w u L) (hc:∀ x:Int,0<=x->x<(V.length:Int)->Sk.cnt (Sk.vAt V x)<=300) (hl:L.length<=1000000) :
  Calls Tryz.prog 17 #[.agg #[.slice aV nV cV,.slice aI nI cI,.slice aO nO cO,.slice aR nR cR],u] w fun e w'=>e=.returned (.int .i64 (Sk.width V L:Nat))/\Below w.heap.size w w':=by
 obtain ⟨ao,cap,ev,hv1,hv2,-⟩:=hV.at;injection ev with q1 q2 q3;subst q1 q2 q3;unfold maxLen at hv2;obtain ⟨aL,cL,rfl,hl1,hl2,-⟩:=hL.at;unfold maxLen at hl2;obtain ⟨R,hR⟩:=nmQ (Sk.width V L);rw [<-hR];have HR:=zD (show R=0+Sk.width V (L.drop 0) by rw [List.drop_zero,Nat.zero_add];exact hR);obtain ⟨nv,hnv⟩:=nmQ (V.length);obtain ⟨n,hn⟩:=nmQ (L.length);rw [<-hnv] at hv1 hV ⊢;rw [<-hn] at hl1 hl hL ⊢;have b1:Below w.heap.size w (w.alloc (.cells #[.slice aV nv cV,.slice aI nI cI,.slice aO nO cO,.slice aR nR cR] 26 (0,0))):=(Below.refl _ _).alloc zL _;have kS:=zH w (.cells #[.slice aV nv cV,.slice aI nI cI,.slice aO nO cO,.slice aR nR cR] 26 (0,0));have HV:=zD (hV.under b1);have HL:=zD (hL.under b1);have HC:=zD hc;have HN:=zD hn;have HNV:=zD hnv;clear hR hV hL hc hn hnv;go_enter Tryz.func17,Tryz.ntmps17;go_upto_region 1 with fail;obtain ⟨w1,hw1⟩:=nmQ (w.alloc (.cells #[.slice aV nv cV,.slice aI nI cI,.slice aO nO cO,.slice aR nR cR] 26 (0,0)));rw [<-hw1] at b1 kS HV HL ⊢;clear hw1;go_wp2_with fail;go_loopg [5,10] n (fun k u v wr=>∃ (i a:Nat),i<=n/\k=n-i/\u=.int .i64 (a:Nat)/\v=.int .i64 (i:Nat)/\Hid (R=a+Sk.width V (L.drop i))/\a<=300*i/\Below w1.heap.size w1 wr)
 case atStart=>exact ⟨0,0,Nat.zero_le _,rfl,rfl,rfl,HR,Nat.zero_le _,Below.refl _ _⟩
 case round=>
  clear HR;obtain ⟨i,a,hi,rfl,rfl,rfl,H,ha,hbr⟩:=hrel;by_cases hlt:i<n
  case neg=>
   have hin:i=n:=(by omega);subst hin;have e1:L.drop i=[]:=List.drop_of_length_le (by have:=HN.out;omega);have HZ:=zD (show a=R by rw [H.out,e1];rfl);clear e1 H;go_wp2;go_ret;exact ⟨by rw [HZ.out];rfl,b1.trans (hbr.mono b1.size)⟩
  case pos=>
   have hil:i<L.length:=(by have:=HN.out;omega);have hdr:L.drop i=L[i] :: L.drop (i+1):=List.drop_eq_getElem_cons hil;have hR1:=H.out;rw [hdr] at hR1;unfold Sk.width at hR1;obtain ⟨ao',cap',eqs,-,-,hat2⟩:=(HL.out.under hbr).at;injection eqs with q1 q2 q3;subst q1;obtain ⟨bb,o,rfl,hb,e0⟩:=hat2 i hil;obtain ⟨y,hy⟩:=nmQ (L[i]);rw [<-hy] at e0 hR1;have kS1:=(hbr.block _ (zG kS)).trans kS;have s0:=coQ kS1 0;simp at s0;clear hat2 q2 q3 hy hdr H kS1;by_cases h0:0<=y
   case neg=>
    rw [if_neg (by omega),Nat.zero_add] at hR1;have HR1:=zD hR1;have g0:y<0:=(by omega);clear hR1 h0;go_wp2_with fail;go_roundg (n-(i+1))
    case measure=>omega
    case rel=>exact ⟨i+1,a,by omega,rfl,rfl,by go_num,HR1,by omega,hbr⟩
   case pos=>
    obtain ⟨q,rfl⟩:∃ q:Nat,y=(q:Int):=⟨y.toNat,by omega⟩;by_cases h1:q<nv
    case neg=>
     rw [if_neg (by have:=HNV.out;omega),Nat.zero_add] at hR1;have HR1:=zD hR1;have h2:nv<=q:=(by omega);clear hR1 h0 h1;go_wp2_with fail;go_roundg (n-(i+1))
     case measure=>omega
     case rel=>exact ⟨i+1,a,by omega,rfl,rfl,by go_num,HR1,by omega,hbr⟩
    case pos=>
     have hqV:q<V.length:=(by have:=HNV.out;omega);rw [if_pos (by omega)] at hR1;have hcq:=HC.out (q:Int) (by omega) (by omega);have ev:Sk.vAt V (q:Int)=V[q]:=vAt_get hqV;rw [ev] at hR1 hcq;obtain ⟨ao3,cap3,eq3,-,-,hat3⟩:=(HV.out.under hbr).at;injection eq3 with z1 z2 z3;subst z1;obtain ⟨bv,ov,rfl,yv,x0,y0⟩:=hat3 q hqV;generalize V[q]=va at x0 y0 hR1 hcq;have hct:=qM va;generalize Sk.cnt va=cc at hct hR1 hcq;have HR1:=zD (show R=(a+cc)+Sk.width V (L.drop (i+1)) by rw [hR1];omega);have HCT:=zD hct;clear hat3 z2 z3 ev hR1 hct h0;unfold vv at HCT;go_wp2_with fail;refine (HCT.out _).mono ?_;rintro e w4 ⟨rfl,b4⟩;have B4:=hbr.trans (b4.mono hbr.size);clear HCT x0 y0 s0 e0;go_wp2_with fail;go_roundg (n-(i+1))
     case measure=>omega
     case rel=>exact ⟨i+1,a+cc,by omega,rfl,by go_num,by go_num,HR1,by omega,B4⟩
end Go.Proofs.YtoldepieaafakaaGreatDoor
namespace Go.Proofs.YtoldepieaafakaaGreatDoor
open Go.RowKit Go.IntWalk
namespace Sk
def meetsTo (l:List Sp) (p:Int) (n:Nat):List Nat:=(List.range n).filter fun v=>decide ((spAt l v).1<=p)&&decide (p<=(spAt l v).2)
theorem meetsTo_all (l:List Sp) (p:Int):meetsTo l p l.length=meets l p:=rfl
theorem meetsTo_succ (l:List Sp) (p:Int) (n:Nat):meetsTo l p (n+1)=meetsTo l p n++(if (spAt l n).1<=p/\p<=(spAt l n).2 then [n] else []):=by
 unfold meetsTo;rw [List.range_succ,List.filter_append]
 congr 1
 by_cases h1:(spAt l n).1<=p<;>by_cases h2:p<=(spAt l n).2<;>simp [h1,h2]
theorem meetsTo_len (l:List Sp) (p:Int) (n:Nat):(meetsTo l p n).length<=n:=by
 unfold meetsTo;have:=List.length_filter_le (fun v:Nat=>decide ((spAt l v).1<=p)&&decide (p<=(spAt l v).2)) (List.range n)
 rwa [List.length_range] at this
theorem spAt_get {l:List Sp} {i:Nat} (h:i<l.length):spAt l (i:Int)=l[i]:=by
 unfold spAt;rw [Int.toNat_natCast,List.getD_eq_getElem?_getD,List.getElem?_eq_getElem h];rfl
theorem cnt_le8 {S:Sys} (ok:Okay S) (x:Int) (h0:0<=x) (h1:x<(S.V.length:Int)):cnt (vAt S.V x)<=300:=by
 have hm:vAt S.V x ∈ S.V:=by
  unfold vAt;rw [List.getD_eq_getElem?_getD,List.getElem?_eq_getElem (by omega)];exact List.getElem_mem _
 have h:=ok.vars _ hm;obtain ⟨-,h2,h3⟩:=h;unfold cnt;omega
end Sk
theorem zBE {w:World} {g:Nat} {l:List Sk.Sp} (h:SpB w g l) (hl:l.length<=1000) (p:Int) :
  Calls Tryz.prog 18 #[.slice (some ⟨g,0,none⟩) l.length l.length,.int .i64 p] w fun e w'=>∃ v,e=.returned v/\HInts (fun i=>w.heap.size<=i) w' v (nI (Sk.meets l p))/\Below w.heap.size w w':=by
 have HH:=zD h;obtain ⟨n,hn⟩:=nmQ (l.length);rw [<-hn] at hl ⊢;have HN:=zD hn;clear h hn;go_enter Tryz.func18,Tryz.ntmps18;go_wp2_with fail;go_loopg [5,10] n (fun k v5 v wr=>∃ (i:Nat),i<=n/\k=n-i/\v=.int .i64 (i:Nat)/\Hid (OwnL kInt w.heap.size wr v5 (nI (Sk.meetsTo l p i)))/\Below w.heap.size w wr)
 case atStart=>exact ⟨0,Nat.zero_le _,rfl,rfl,zD OwnL.nil,Below.refl _ _⟩
 case round=>
  obtain ⟨i,hi,rfl,rfl,HO,hbr⟩:=hrel;obtain ⟨a5,c5,e5,-,-⟩:=HO.out.form;rw [xU] at e5;subst e5;by_cases hlt:i<n
  case neg=>
   have hin:i=n:=(by omega);have HEND:=zD (show HInts (fun i=>w.heap.size<=i) wr (.slice a5 (Sk.meetsTo l p i).length c5) (nI (Sk.meets l p)) by
    have h1:=xJ HO.out.row;have e:Sk.meetsTo l p i=Sk.meets l p:=(by rw [hin,HN.out];rfl);rw [e] at h1 ⊢;exact h1)
   clear HO;generalize (Sk.meetsTo l p i).length=ml at HEND ⊢;subst hin;go_wp2;go_ret;exact ⟨_,rfl,HEND.out,hbr⟩
  case pos=>
   have hil:i<l.length:=(by have:=HN.out;omega);obtain ⟨x0,x1⟩:=(HH.out.under hbr).at hil;have yg:=(HH.out.under hbr).lt;obtain ⟨u,hu⟩:=nmQ ((l[i]).1);obtain ⟨v,hv⟩:=nmQ ((l[i]).2);rw [<-hu] at x0;rw [<-hv] at x1;have HM:=zD (show Sk.meetsTo l p (i+1)=Sk.meetsTo l p i++(if u<=p/\p<=v then [i] else []) by rw [Sk.meetsTo_succ,Sk.spAt_get hil,<-hu,<-hv]);have hml:=Sk.meetsTo_len l p i;have b2:Below wr.heap.size wr (wr.alloc (.cells #[.int .i64 u,.int .i64 v] 44 (0,0))):=(Below.refl _ _).alloc zL _;have k2:=zH wr (.cells #[.int .i64 u,.int .i64 v] 44 (0,0));have HO2:=zD (HO.out.below b2);have B2:=hbr.trans (b2.mono hbr.size);clear hu hv hil HO;go_upto_region 5 with fail;generalize wr.alloc (.cells #[.int .i64 u,.int .i64 v] 44 (0,0))=w3 at b2 k2 HO2 B2 ⊢;have c0:=coQ k2 0;have c1:=coQ k2 1;simp at c0 c1;clear x0 x1;by_cases h1:u<=p
   case neg=>
    have hd:decide (u<=p)=false:=(by simp [h1]);have HE:=zD (show Sk.meetsTo l p (i+1)=Sk.meetsTo l p i by rw [HM.out,if_neg (fun q=>h1 q.1),List.append_nil]);clear HM;go_wp2_with fail;go_roundg (n-(i+1))
    case measure=>omega
    case rel=>exact ⟨i+1,by omega,rfl,by go_num,zD (by rw [HE.out];exact HO2.out),B2⟩
   case pos=>
    have hd:decide (u<=p)=true:=(by simp [h1]);by_cases h2:p<=v
    case neg=>
     have hd2:decide (p<=v)=false:=(by simp [h2]);have HE:=zD (show Sk.meetsTo l p (i+1)=Sk.meetsTo l p i by rw [HM.out,if_neg (fun q=>h2 q.2),List.append_nil]);clear HM;go_wp2_with fail;go_roundg (n-(i+1))
     case measure=>omega
     case rel=>exact ⟨i+1,by omega,rfl,by go_num,zD (by rw [HE.out];exact HO2.out),B2⟩
    case pos=>
     have hd2:decide (p<=v)=true:=(by simp [h2]);have HE:=zD (show nI (Sk.meetsTo l p (i+1))=nI (Sk.meetsTo l p i)++[(i:Int)] by rw [HM.out,if_pos ⟨h1,h2⟩];simp [nI]);have q2:((nI (Sk.meetsTo l p i)).length+1)*8<=140737488355328:=(by rw [xU];omega);have q3:(nI (Sk.meetsTo l p i)).length+1<=maxLen:=(by rw [xU];unfold maxLen;omega);have zw:=B2.size;have HNb:=zD (show ∀ k,(Value.slice a5 (Sk.meetsTo l p i).length c5).ownBlock=some k->k<w3.heap.size from fun k hk=>(HO2.out.lt k hk).2);clear HM
     go_wp2_with (at_builtin;refine qK kInt rfl _ _ 23 3 rfl Tryz.underlying23 w.heap.size w3.heap.size _ (nI (Sk.meetsTo l p i)) (by rfl) HO2.out [.int .i64 (i:Int)] (i:Int) rfl (by rfl) HNb.out zw zw q2 q3 ?_;intro v8 w8 own8 b8 _ _;have HO8:=zD own8;clear own8 HO2 HNb)
     go_roundg (n-(i+1))
     case measure=>omega
     case rel=>exact ⟨i+1,by omega,rfl,by go_num,zD (by rw [HE.out];exact HO8.out),B2.trans b8⟩
def MostPost (w:World) (S:Sk.Sys) (e:Ending) (w':World):Prop :=
 (∃ c a,FaultIs S c a/\c≠0/\e=.returned (.tuple #[.int .i64 0,.agg #[.int .i64 c,.int .i64 a]])/\Below w.heap.size w w') \/
 (Sk.Okay S/\Sk.Ahead S/\∃ m:Nat,e=.returned (.tuple #[.int .i64 (m:Int),.agg #[.int .i64 0,.int .i64 0]])/\(∀ i:Nat,i<S.R.length->Sk.width S.V (nI (Sk.meets (Sk.spans S) (i:Int)))<=m)/\Below w.heap.size w w')
theorem most7_any {ok:Nat->Prop} {w:World} {aV aI aO aR:Option Addr} {cV cI cO cR:Nat} {S:Sk.Sys} (hG:GlobK w) (hP:GlobP w) (hS:HSys ok w aV aI aO aR cV cI cO cR S) (hfit:∀ r ∈ S.R,r.A.length<=1000000/\r.E.length<=1000000):Calls Tryz.prog 7 #[.agg #[.slice aV S.V.length cV,.slice aI S.I.length cI,.slice aO S.O.length cO,.slice aR S.R.length cR]] w (MostPost w S):=by
 have b1:Below w.heap.size w ((w.alloc (.cells #[.slice aV S.V.length cV,.slice aI S.I.length cI,.slice aO S.O.length cO,.slice aR S.R.length cR] 26 (0,0))).alloc (.cells #[.int .i64 0,.int .i64 0] 31 (0,0))):=((Below.refl _ _).alloc zL _).alloc (by simp) _;have kS:((w.alloc (.cells #[.slice aV S.V.length cV,.slice aI S.I.length cI,.slice aO S.O.length cO,.slice aR S.R.length cR] 26 (0,0))).alloc (.cells #[.int .i64 0,.int .i64 0] 31 (0,0))).heap[w.heap.size]?=some (.cells #[.slice aV S.V.length cV,.slice aI S.I.length cI,.slice aO S.O.length cO,.slice aR S.R.length cR] 26 (0,0)):=(Below.heap_alloc _ _ _ (by simp)).trans (zH w _);have kF:((w.alloc (.cells #[.slice aV S.V.length cV,.slice aI S.I.length cI,.slice aO S.O.length cO,.slice aR S.R.length cR] 26 (0,0))).alloc (.cells #[.int .i64 0,.int .i64 0] 31 (0,0))).heap[w.heap.size+1]?=some (.cells #[.int .i64 0,.int .i64 0] 31 (0,0)):=by
  have:=zH (w.alloc (.cells #[.slice aV S.V.length cV,.slice aI S.I.length cI,.slice aO S.O.length cO,.slice aR S.R.length cR] 26 (0,0))) (.cells #[.int .i64 0,.int .i64 0] 31 (0,0))
  simpa using this
 have hsp:=zR (hG.under b1) (hP.under b1) (hS.under b1) hfit;have HS:=zD (hS.under b1);obtain ⟨aoR,capR,evR,hR1,hR2,-⟩:=hS.R.at;injection evR with q1 q2 q3;rw [<-q3] at hR1 hR2;unfold maxLen at hR2;clear hS hG hP hfit q1 q2 q3;unfold MostPost;go_enter Tryz.func7,Tryz.ntmps7;go_upto_region 1 with fail;generalize (w.alloc (.cells #[.slice aV S.V.length cV,.slice aI S.I.length cI,.slice aO S.O.length cO,.slice aR S.R.length cR] 26 (0,0))).alloc (.cells #[.int .i64 0,.int .i64 0] 31 (0,0))=w1 at b1 kS kF hsp HS ⊢;have s0:=coQ kS 0;have s1:=coQ kS 1;have s2:=coQ kS 2;have s3:=coQ kS 3;simp at s0 s1 s2 s3;go_wp2_with fail;refine hsp.mono ?_;rintro e w2 (⟨fc,fa,hfi,hc0,rfl,b2⟩ | ⟨okS,had,g,rfl,hrow,hg,b2⟩)
 case inl=>
  have hq:(fc != 0)=true:=(by simpa using hc0);have HFI:=zD hfi;have HC0:=zD hc0;clear hsp s0 s1 s2 s3 hfi hc0;have b3:Below w2.heap.size w2 (w2.alloc (.cells #[.int .i64 fc,.int .i64 fa] 31 (0,0))):=(Below.refl _ _).alloc zL _;have kE:=zH w2 (.cells #[.int .i64 fc,.int .i64 fa] 31 (0,0));have kF3:=(b3.block _ (zG ((b2.block _ (zG kF)).trans kF))).trans ((b2.block _ (zG kF)).trans kF);have B3:=(b1.trans (b2.mono b1.size)).trans (b3.mono (Nat.le_trans b1.size b2.size));have z1:w.heap.size+1<w1.heap.size:=zG kF;have z2:=b2.size;clear kS kF HS;go_upto_region 2 with fail;generalize w2.alloc (.cells #[.int .i64 fc,.int .i64 fa] 31 (0,0))=w3 at b3 kE kF3 B3 ⊢;have e0:=coQ kE 0;have e1:=coQ kE 1;simp at e0 e1;have yE:=zG kE;have yF:=zG kF3;go_upto_region 3 with fail;refine zK (fun w'=>Below w3.heap.size w3 w') (fun i=>i==2) (by kernel_rfl) ?_;have hH0:Below w3.heap.size w3 w3.drew:=(Below.refl _ _).drew;generalize w3.drew=wd0 at hH0 ⊢;refine' tkQ 0 16 hH0 ?hyv ?o1
  case hyv=>
   intro wz hSw;have zc0:=(hSw.cell (p:=⟨w2.heap.size,0,none⟩) yE).trans e0;have zc1:=(hSw.cell (p:=⟨w2.heap.size,1,none⟩) yE).trans e1;go_simp
   try rfl
  try simp only [Act.put,sT,sZ,sS]
  refine' tkR 1 2 hH0 ?o2
  refine tnQ 2 (fun K hK=>?_);have kF9:=(hH0.block _ yF).trans kF3;have B9:=B3.trans (hH0.mono B3.size);have f0:=coQ kF9 0;have f1:=coQ kF9 1;have g0:=foQ kF9 0;have g1:=foQ kF9 1;simp at f0 f1;have KE:=zP (zP kF9 0 (.int .i64 fc)) 1 (.int .i64 fa);simp at KE;have BE:=(B9.setCell (p:=⟨w.heap.size+1,0,none⟩) (by simp) (.int .i64 fc)).setCell (p:=⟨w.heap.size+1,1,none⟩) (by simp) (.int .i64 fa);have r0:=coQ KE 0;have r1:=coQ KE 1;simp at r0 r1;clear KE;have HBE:=zD BE;clear kF9 BE;go_simp;refine hK.out _ _ (fun h=>absurd h (by decide)) ?_;clear hK K
  try simp only [Act.put,sT,sZ,sS]
  clear f0 f1 g0 g1;generalize (wd0.setCell ⟨w.heap.size+1,0,none⟩ (.int .i64 fc)).setCell ⟨w.heap.size+1,1,none⟩ (.int .i64 fa)=wd1 at r0 r1 HBE ⊢;refine zJ (by kernel_rfl) ?_ _;go_wp2;exact bodyPost_ret (v:=.tuple #[.int .i64 0,.agg #[.int .i64 fc,.int .i64 fa]]) (by simp [results,Tryz.results7,go_sem,r0,r1]) rfl (.inl ⟨fc,fa,HFI.out,HC0.out,rfl,HBE.out⟩)
 case inr=>
  have HOK:=zD okS;have HAD:=zD had;have hnV:=okS.nV;have hnR:=okS.nR;have hln:=(Sk.spans_spanned okS).len;clear hsp s0 s1 s2 s3 okS had;have b3:Below w2.heap.size w2 (w2.alloc (.cells #[.int .i64 0,.int .i64 0] 31 (0,0))):=(Below.refl _ _).alloc zL _;have kE:=zH w2 (.cells #[.int .i64 0,.int .i64 0] 31 (0,0));have kF3:=(b3.block _ (zG ((b2.block _ (zG kF)).trans kF))).trans ((b2.block _ (zG kF)).trans kF);have kS3:=(b3.block _ (zG ((b2.block _ (zG kS)).trans kS))).trans ((b2.block _ (zG kS)).trans kS);have B3:=(b1.trans (b2.mono b1.size)).trans (b3.mono (Nat.le_trans b1.size b2.size));have z1:w.heap.size+1<w1.heap.size:=zG kF;have z2:=b2.size;have HS3:=zD ((HS.out.under b2).under b3);have HR3:=zD (hrow.under b3);have HLN:=zD hln;clear kS kF HS hrow hln;go_upto_region 2 with fail;generalize w2.alloc (.cells #[.int .i64 0,.int .i64 0] 31 (0,0))=w3 at b3 kE kF3 kS3 B3 HS3 HR3 ⊢;have e0:=coQ kE 0;simp at e0;have yS:=zG kS3;have yF:=zG kF3;have HK3:=zD kS3;go_wp2_with fail;clear e0 kE;go_loopg [6,7] (S.R.length+2) (fun k u v wr=>∃ (j m:Nat),j<=S.R.length+2/\k=S.R.length+2-j/\u=.int .i64 (m:Nat)/\v=.int .i64 ((j:Int)-1)/\Hid (∀ i:Nat,i+1<j->Sk.width S.V (nI (Sk.meets (Sk.spans S) (i:Int)))<=m)/\Below w3.heap.size w3 wr)
  case atStart=>exact ⟨0,0,Nat.zero_le _,rfl,rfl,rfl,zD (fun i h=>absurd h (Nat.not_lt_zero _)),Below.refl _ _⟩
  case round=>
   obtain ⟨j,m,hj,rfl,rfl,rfl,HW,hbr⟩:=hrel;have kSr:=(hbr.block _ yS).trans HK3.out;have s3:=coQ kSr 3;simp at s3;by_cases hlt:j<S.R.length+2
   case neg=>
    have hin:j=S.R.length+2:=(by omega);subst hin;have kFr:=(hbr.block _ yF).trans kF3;have BR:=B3.trans (hbr.mono B3.size);have HALL:=zD (show ∀ i:Nat,i<S.R.length->Sk.width S.V (nI (Sk.meets (Sk.spans S) (i:Int)))<=m from fun i hi=>HW.out i (by omega));have hle:¬((((S.R.length+2:Nat):Int)-1)<=(S.R.length:Int)):=(by omega);have hd:decide ((((S.R.length+2:Nat):Int)-1)<=(S.R.length:Int))=false:=(by simp;omega);clear HW kSr;have f0:=coQ kFr 0;have f1:=coQ kFr 1;have g0:=foQ kFr 0;have g1:=foQ kFr 1;simp at f0 f1;have KE:=zP (zP kFr 0 (.int .i64 0)) 1 (.int .i64 0);simp at KE;have BE:=(BR.setCell (p:=⟨w.heap.size+1,0,none⟩) (by simp) (.int .i64 0)).setCell (p:=⟨w.heap.size+1,1,none⟩) (by simp) (.int .i64 0);have r0:=coQ KE 0;have r1:=coQ KE 1;simp at r0 r1;clear KE;go_wp2;exact bodyPost_ret (v:=.tuple #[.int .i64 (m:Int),.agg #[.int .i64 0,.int .i64 0]]) (by simp [results,Tryz.results7,go_sem,r0,r1]) rfl (.inr ⟨HOK.out,HAD.out,m,rfl,HALL.out,BE⟩)
   case pos=>
    have s0:=coQ kSr 0;have s1:=coQ kSr 1;have s2:=coQ kSr 2;simp at s0 s1 s2;have ySr:=zG kSr;have HRr:=zD (HR3.out.under hbr);have HVr:=zD ((HS3.out.under hbr).V);have hle:((j:Int)-1)<=(S.R.length:Int):=(by omega);have hd:decide (((j:Int)-1)<=(S.R.length:Int))=true:=(by simp;omega);have hln:=HLN.out;have HMT:=zD (show ∀ W,Below wr.heap.size wr W->Calls Tryz.prog 18 #[.slice (some ⟨g,0,none⟩) S.V.length S.V.length,.int .i64 ((j:Int)-1)] W fun e w'=>∃ v,e=.returned v/\HInts (fun i=>W.heap.size<=i) w' v (nI (Sk.meets (Sk.spans S) ((j:Int)-1)))/\Below W.heap.size W w' from fun W hb=>by
     have h:=zBE (HRr.out.under hb) (by rw [hln];omega) ((j:Int)-1);rw [hln] at h;exact h)
    have hlm:(nI (Sk.meets (Sk.spans S) ((j:Int)-1))).length<=1000000:=by
     rw [xU];have:=Sk.meetsTo_len (Sk.spans S) ((j:Int)-1) (Sk.spans S).length;rw [Sk.meetsTo_all,hln] at this;omega
    obtain ⟨M,hM⟩:=nmQ (nI (Sk.meets (Sk.spans S) ((j:Int)-1)));rw [<-hM] at HMT hlm;have HM:=zD hM;clear kSr hM;go_upto_region 8 with fail;refine zK (fun w'=>Below wr.heap.size wr w') (fun _=>false) (by kernel_rfl) ?_;have hH0:Below wr.heap.size wr wr.drew:=(Below.refl _ _).drew;generalize wr.drew=wd0 at hH0 ⊢;refine' tkR 0 24 hH0 ?o3
    refine' tkQ 1 25 hH0 ?hyv ?o4
    case hyv=>
     intro wz hSw;have zc0:=(hSw.cell (p:=⟨w.heap.size,0,none⟩) ySr).trans s0;have zc1:=(hSw.cell (p:=⟨w.heap.size,1,none⟩) ySr).trans s1;have zc2:=(hSw.cell (p:=⟨w.heap.size,2,none⟩) ySr).trans s2;have zc3:=(hSw.cell (p:=⟨w.heap.size,3,none⟩) ySr).trans s3;go_simp
     try rfl
    try simp only [Act.put,sT,sZ,sS]
    refine' tkR 2 26 hH0 ?o5
    refine' tkR 3 27 hH0 ?o6
    refine tnQ 4 (fun K hK=>?_);go_simp;refine (HMT.out _ hH0).mono ?_;rintro eq wd1 ⟨vm,rfl,hvm,bq1⟩;have hH1:Below wr.heap.size wr wd1:=hH0.trans (bq1.mono hH0.size);have HVM:=zD hvm;obtain ⟨am,cm,em,-,-,-⟩:=hvm.at;subst em;clear hvm;refine hK.out _ _ (fun _=>hH1) ?_;clear hK K
    try simp only [Act.put,sT,sZ,sS]
    refine tnQ 5 (fun K hK=>?_);go_simp;refine (vH (aI:=aI) (aO:=aO) (aR:=aR) (HVr.out.under hH1) HVM.out (Sk.cnt_le8 HOK.out) hlm).mono ?_;rintro eq wd2 ⟨rfl,bq2⟩;have hH2:Below wr.heap.size wr wd2:=hH1.trans (bq2.mono hH1.size);obtain ⟨mw,hmw⟩:=nmQ (Sk.width S.V M);rw [<-hmw];have HMW:=zD hmw;clear hmw;refine hK.out _ _ (fun _=>hH2) ?_;clear hK K
    try simp only [Act.put,sT,sZ,sS]
    refine' tkR 6 30 hH2 ?o7
    refine' tkR 7 6 hH2 ?o8
    refine zJ (by kernel_rfl) ?_ _;have HB:=zD (hbr.trans (hH2.mono hbr.size));go_wp2_with fail;go_roundg (S.R.length+2-(j+1))
    case measure=>omega
    case rel=>exact ⟨j+1,max m mw,by omega,rfl,by congr 1;omega,by congr 1;omega,zD (fun i hi=>by
     rcases Nat.lt_or_ge (i+1) j with q | q
     ·exact Nat.le_trans (HW.out i q) (Nat.le_max_left _ _)
     ·have e:(i:Int)=(j:Int)-1:=by omega
      rw [e,<-HM.out,<-HMW.out];exact Nat.le_max_right _ _),HB.out⟩
end Go.Proofs.YtoldepieaafakaaGreatDoor
