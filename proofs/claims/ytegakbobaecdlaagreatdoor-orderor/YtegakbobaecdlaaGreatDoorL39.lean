import Derived.Test.YtegakbobaecdlaaGreatDoorL37
set_option linter.unusedVariables false
set_option linter.unusedSimpArgs false
set_option maxHeartbeats 64000000
set_option maxRecDepth 100000
namespace Go.Proofs.YtegakbobaecdlaaGreatDoor
open Go.RowKit Go.IntWalk
theorem jR {ok:Nat->Prop} {w:World} {v:Value} {l:List Int} (x:Int) (hl:HInts ok w v l) :
  Calls Tryz.prog 56 #[v,.int .i64 x] w fun e w'=>e=.returned (.int .i64 (Sk.idxI (fun z=>x==z) 0 l))/\Below w.heap.size w w':=by
 obtain ⟨ao,cap,rfl,hc1,hc2,-⟩:=hl.at;unfold maxLen at hc2;obtain ⟨R,hR⟩:=nmQ (Sk.idxI (fun z=>x==z) 0 l);rw [<-hR];have HR:=zE (show R=Sk.idxI (fun z=>x==z) 0 (l.drop 0) by rw [List.drop_zero];exact hR);have HL:=zE hl;clear hR hl;obtain ⟨n,hn⟩:=nmQ (l.length);rw [<-hn] at hc1 ⊢;have HN:=zE hn;clear hn;go_enter Tryz.func56,Tryz.ntmps56;go_wp2_with fail;go_loopg [8] n (fun k v wr=>∃ i,i<=n/\k=n-i/\v=.int .i64 (i:Nat)/\Hid (R=Sk.idxI (fun z=>x==z) i (l.drop i))/\Below w.heap.size w wr)
 case atStart=>exact ⟨0,Nat.zero_le _,rfl,rfl,HR,Below.refl _ _⟩
 case round=>
  clear HR;obtain ⟨i,hi,rfl,rfl,H,hbr⟩:=hrel;by_cases hlt:i<n
  case neg=>
   have hin:i=n:=(by omega);subst hin;have e1:l.drop i=[]:=List.drop_of_length_le (by have:=HN.out;omega);have HZ:=zE (show R = -1 by rw [H.out,e1];rfl);clear e1;go_wp2;go_ret;exact ⟨by rw [HZ.out];rfl,hbr⟩
  case pos=>
   have hil:i<l.length:=(by have:=HN.out;omega);have hdr:l.drop i=l[i] :: l.drop (i+1):=List.drop_eq_getElem_cons hil;have hR1:=H.out;rw [hdr] at hR1;obtain ⟨ao',cap',eqs,-,-,hat2⟩:=(HL.out.under hbr).at;injection eqs with q1 q2 q3;subst q1;obtain ⟨bb,o,rfl,hb,e0⟩:=hat2 i hil;obtain ⟨y,hy⟩:=nmQ (l[i]);rw [<-hy] at e0 hR1;unfold Sk.idxI at hR1;have HR1:=zE hR1;clear hat2 q2 q3 hy hdr hR1 H
   cases hq:(x==y)
   case false=>
    have HZ:Hid (R=Sk.idxI (fun z=>x==z) (i+1) (l.drop (i+1))):=zE (by rw [HR1.out,if_neg (show ¬(x==y)=true by rw [hq];decide)]);clear HR1;go_wp2_with fail;go_roundg (n-(i+1))
    case measure=>omega
    case rel=>exact ⟨i+1,by omega,rfl,by go_num,HZ,hbr⟩
   case true=>
    have HZ:Hid (R=(i:Int)):=zE (by rw [HR1.out,if_pos (show (x==y)=true from hq)]);clear HR1;go_wp2;go_ret;exact ⟨by rw [HZ.out];rfl,hbr⟩
theorem zAT {ok:Nat->Prop} {w:World} {v:Value} {l:List Int} (x:Int) (hl:HInts ok w v l) :
  Calls Tryz.prog 54 #[v,.int .i64 x] w fun e w'=>e=.returned (.bool (l.any (fun z=>x==z)))/\Below w.heap.size w w':=by
 have hc:=jR x hl;have hi:=Sk.idxI_neg (fun z=>x==z) l 0;obtain ⟨ao,cap,rfl,-⟩:=hl.at;generalize Sk.idxI (fun z=>x==z) 0 l=R at hc hi;have HI:=zE hi;clear hi hl;generalize l.any (fun z=>x==z)=q at HI ⊢;go_enter Tryz.func54,Tryz.ntmps54;go_wp2_with fail;refine hc.mono ?_;rintro e w4 ⟨rfl,b4⟩;have hq:(decide (0<=R))=q:=by
  have:=HI.out.1
  cases q<;>simp at this ⊢<;>omega
 clear hc HI;go_wp2;go_ret;exact ⟨by rw [<-hq];rfl,b4⟩
theorem xT {ok:Nat->Prop} {w:World} {v:Value} {l:List Int} (x:Int) (hl:HInts ok w v l) :
  Calls Tryz.prog 12 #[v,.int .i64 x] w fun e w'=>e=.returned (.bool (l.any (fun z=>z==x)))/\Below w.heap.size w w':=by
 obtain ⟨ao,cap,rfl,hc1,hc2,-⟩:=hl.at;unfold maxLen at hc2;obtain ⟨R,hR⟩:=nmQ (l.any (fun z=>z==x));rw [<-hR];have HR:=zE (show R=(l.drop 0).any (fun z=>z==x) by rw [List.drop_zero];exact hR);have HL:=zE hl;clear hR hl;obtain ⟨n,hn⟩:=nmQ (l.length);rw [<-hn] at hc1 ⊢;have HN:=zE hn;clear hn;go_enter Tryz.func12,Tryz.ntmps12;go_wp2_with fail;go_loopg [5] n (fun k v wr=>∃ i,i<=n/\k=n-i/\v=.int .i64 (i:Nat)/\Hid (R=(l.drop i).any (fun z=>z==x))/\Below w.heap.size w wr)
 case atStart=>exact ⟨0,Nat.zero_le _,rfl,rfl,HR,Below.refl _ _⟩
 case round=>
  clear HR;obtain ⟨i,hi,rfl,rfl,H,hbr⟩:=hrel;by_cases hlt:i<n
  case neg=>
   have hin:i=n:=(by omega);subst hin;have e1:l.drop i=[]:=List.drop_of_length_le (by have:=HN.out;omega);have HZ:=zE (show R=false by rw [H.out,e1];rfl);clear e1;go_wp2;go_ret;exact ⟨by rw [HZ.out];rfl,hbr⟩
  case pos=>
   have hil:i<l.length:=(by have:=HN.out;omega);have hdr:l.drop i=l[i] :: l.drop (i+1):=List.drop_eq_getElem_cons hil;have hR1:=H.out;rw [hdr,List.any_cons] at hR1;obtain ⟨ao',cap',eqs,-,-,hat2⟩:=(HL.out.under hbr).at;injection eqs with q1 q2 q3;subst q1;obtain ⟨bb,o,rfl,hb,e0⟩:=hat2 i hil;obtain ⟨y,hy⟩:=nmQ (l[i]);rw [<-hy] at e0 hR1;have HR1:=zE hR1;clear hat2 q2 q3 hy hdr hR1 H
   cases hq:(y==x)
   case false=>
    have HZ:Hid (R=(l.drop (i+1)).any (fun z=>z==x)):=zE (by rw [HR1.out,hq,Bool.false_or]);clear HR1;go_wp2_with fail;go_roundg (n-(i+1))
    case measure=>omega
    case rel=>exact ⟨i+1,by omega,rfl,by go_num,HZ,hbr⟩
   case true=>
    have HZ:Hid (R=true):=zE (by rw [HR1.out,hq,Bool.true_or]);clear HR1;go_wp2;go_ret;exact ⟨by rw [HZ.out];rfl,hbr⟩
theorem qY {l:List Int} {x:Int}:(l.any (fun z=>z==x))=true↔x ∈ l:=by
 rw [List.any_eq_true]
 constructor
 ·rintro ⟨z,hz,e⟩
  have:z=x:=(by simpa using e);exact this ▸ hz
 ·intro h
  exact ⟨x,h,by simp⟩
theorem maker95_any {w:World} {nb:Nat} {num:Int} {r:Sk.Ru} {y:RuV} (hn:w.heap[nb]?=some (.cells #[.int .i64 num] 3 (0,0))):Calls Tryz.prog 101 #[.agg #[.int .i64 r.op,.int .i64 r.k,.int .i64 r.out,.int .i64 r.n,.slice y.aA y.nA y.cA,.slice y.aE y.nE y.cE],.pointer (some ⟨nb,0,none⟩)] w fun e w'=>e=.returned (.bool (r.out==num))/\Below w.heap.size w w':=by
 have b1:Below w.heap.size w (w.alloc (.cells #[.int .i64 r.op,.int .i64 r.k,.int .i64 r.out,.int .i64 r.n,.slice y.aA y.nA y.cA,.slice y.aE y.nE y.cE] 40 (0,0))):=(Below.refl _ _).alloc zM _;have kR:=zI w (.cells #[.int .i64 r.op,.int .i64 r.k,.int .i64 r.out,.int .i64 r.n,.slice y.aA y.nA y.cA,.slice y.aE y.nE y.cE] 40 (0,0));have kN:=(b1.block _ (zG hn)).trans hn;obtain ⟨op,k,out,n,A,E⟩:=r;simp only at b1 kR kN ⊢;clear hn;go_enter Tryz.func101,Tryz.ntmps101;go_upto_region 1 with fail;generalize w.alloc (.cells #[.int .i64 op,.int .i64 k,.int .i64 out,.int .i64 n,.slice y.aA y.nA y.cA,.slice y.aE y.nE y.cE] 40 (0,0))=w1 at b1 kR kN ⊢;have c0:=coQ kN 0;have c2:=coQ kR 2;simp at c0 c2;go_wp2;go_ret;exact ⟨rfl,b1⟩
theorem eg95:∀ args w,(callFunc 101 args).run Tryz.prog w=.ok (.enter 101 args) w:=enters_of Tryz.func101 (by kernel_rfl) rfl
theorem zAA {ok:Nat->Prop} {w:World} {v:Value} {l:List Sk.Ru} {N:Nat} {a:Value} {p:Int->Bool} (eg:∀ args w,(callFunc N args).run Tryz.prog w=.ok (.enter N args) w) (hl:HRus ok w v l) (hp:∀ (r:Sk.Ru) (y:RuV),∀ W,Below w.heap.size w W->Calls Tryz.prog N #[.agg #[.int .i64 r.op,.int .i64 r.k,.int .i64 r.out,.int .i64 r.n,.slice y.aA y.nA y.cA,.slice y.aE y.nE y.cE],a] W fun e W'=>e=.returned (.bool (p r.out))/\Below W.heap.size W W') :
  Calls Tryz.prog 100 #[v,.func (.func N) #[] #[a]] w fun e w'=>e=.returned (.int .i64 (Sk.idxI p 0 (l.map (·.out))))/\Below w.heap.size w w':=by
 obtain ⟨ao,cap,rfl,hc1,hc2,-⟩:=hl.at;unfold maxLen at hc2;obtain ⟨R,hR⟩:=nmQ (Sk.idxI p 0 (l.map (·.out)));rw [<-hR];have HR:=zE (show R=Sk.idxI p 0 ((l.drop 0).map (·.out)) by rw [List.drop_zero];exact hR);have HL:=zE hl;have HP:=zE hp;clear hR hl hp;obtain ⟨n,hn⟩:=nmQ (l.length);rw [<-hn] at hc1 ⊢;have HN:=zE hn;clear hn;go_enter Tryz.func100,Tryz.ntmps100;go_wp2_with fail;go_loopg [8] n (fun k v wr=>∃ i,i<=n/\k=n-i/\v=.int .i64 (i:Nat)/\Hid (R=Sk.idxI p i ((l.drop i).map (·.out)))/\Below w.heap.size w wr)
 case atStart=>exact ⟨0,Nat.zero_le _,rfl,rfl,HR,Below.refl _ _⟩
 case round=>
  clear HR;obtain ⟨i,hi,rfl,rfl,H,hbr⟩:=hrel;by_cases hlt:i<n
  case neg=>
   have hin:i=n:=(by omega);subst hin;have e1:l.drop i=[]:=List.drop_of_length_le (by have:=HN.out;omega);have HZ:=zE (show R = -1 by rw [H.out,e1];rfl);clear e1;go_wp2;go_ret;exact ⟨by rw [HZ.out];rfl,hbr⟩
  case pos=>
   have hil:i<l.length:=(by have:=HN.out;omega);have hdr:l.drop i=l[i] :: l.drop (i+1):=List.drop_eq_getElem_cons hil;have hR1:=H.out;rw [hdr,List.map_cons] at hR1;obtain ⟨ao',cap',eqs,-,-,hat2⟩:=(HL.out.under hbr).at;injection eqs with q1 q2 q3;subst q1;obtain ⟨bb,o,y,rfl,hb,hat,hru⟩:=hat2 i hil;obtain ⟨r,hr⟩:=nmQ (l[i]);have hc:=HP.out r y wr hbr;rw [<-hr] at hat hR1;obtain ⟨d0,d1,d2,d3,d4,d5⟩:=hat;unfold Sk.idxI at hR1;generalize p r.out=q at hc hR1;have HR1:=zE hR1;clear hat2 q2 q3 hr hdr hR1 H hru;go_wp2_with fail;refine hc.mono ?_;rintro e w4 ⟨rfl,b4⟩;have B4:=hbr.trans (b4.mono hbr.size);clear hc d0 d1 d2 d3 d4 d5
   cases q
   case false=>
    have HZ:Hid (R=Sk.idxI p (i+1) ((l.drop (i+1)).map (·.out))):=zE (by rw [HR1.out];simp);clear HR1;go_wp2_with fail;go_roundg (n-(i+1))
    case measure=>omega
    case rel=>exact ⟨i+1,by omega,rfl,by go_num,HZ,B4⟩
   case true=>
    have HZ:Hid (R=(i:Int)):=zE (by rw [HR1.out];simp);clear HR1;go_wp2;go_ret;exact ⟨by rw [HZ.out];rfl,B4⟩
end Go.Proofs.YtegakbobaecdlaaGreatDoor
namespace Go.Proofs.YtegakbobaecdlaaGreatDoor
open Go.RowKit Go.IntWalk
theorem zV (c a:Int) (w:World):Calls Tryz.prog 27 #[.int .i64 c,.int .i64 a] w fun e w'=>e=.returned (.agg #[.int .i64 c,.int .i64 a])/\Below w.heap.size w w':=by
 have b1:Below w.heap.size w (w.alloc (.cells #[.int .i64 0,.int .i64 0] 30 (0,0))):=(Below.refl _ _).alloc zM _;have kF:=zI w (.cells #[.int .i64 0,.int .i64 0] 30 (0,0));go_enter Tryz.func27,Tryz.ntmps27;go_upto_region 1 with fail;generalize w.alloc (.cells #[.int .i64 0,.int .i64 0] 30 (0,0))=w1 at b1 kF ⊢;have s0:=coQ kF 0;have s1:=coQ kF 1;have f0:=foQ kF 0;have f1:=foQ kF 1;simp at s0 s1;have KE:=zJ (zJ kF 0 (.int .i64 c)) 1 (.int .i64 a);have BE:=(b1.setCell (p:=⟨w.heap.size,0,none⟩) zM (.int .i64 c)).setCell (p:=⟨w.heap.size,1,none⟩) zM (.int .i64 a);have t0:=coQ KE 0;have t1:=coQ KE 1;simp at t0 t1;clear KE;go_wp2;exact bodyPost_ret (v:=.agg #[.int .i64 c,.int .i64 a]) (by simp [results,Tryz.results27,go_sem,t0,t1]) rfl ⟨rfl,BE⟩
theorem zAU {ok:Nat->Prop} {w:World} {aV aI aO aR:Option Addr} {cV cI cO cR:Nat} {S:Sk.Sys} (hS:HSys ok w aV aI aO aR cV cI cO cR S) (n:Nat) (hn:n<=S.R.length) (hR4:S.R.length<=1000) :
  Calls Tryz.prog 28 #[.agg #[.slice aV S.V.length cV,.slice aI S.I.length cI,.slice aO S.O.length cO,.slice aR S.R.length cR],.int .i64 (n:Int)] w fun e w'=>∃ v,e=.returned v/\OwnL kInt w.heap.size w' v ((S.R.take n).map (·.out))/\Below w.heap.size w w':=by
 obtain ⟨aoR,capR,evR,hR1,hR2,-⟩:=hS.R.at;injection evR with g4 g5 g6;rw [<-g6] at hR1 hR2;unfold maxLen at hR2;have b0:Below w.heap.size w (w.alloc (.cells #[.slice aV S.V.length cV,.slice aI S.I.length cI,.slice aO S.O.length cO,.slice aR S.R.length cR] 26 (0,0))):=(Below.refl _ _).alloc zM _;have kS:=zI w (.cells #[.slice aV S.V.length cV,.slice aI S.I.length cI,.slice aO S.O.length cO,.slice aR S.R.length cR] 26 (0,0));have HS:=zE ((hS.wide (ok':=fun i=>i<w.heap.size) fun i _ h=>h).under b0);clear hS g4 g5 g6;go_enter Tryz.func28,Tryz.ntmps28;go_upto_region 1 with fail;generalize w.alloc (.cells #[.slice aV S.V.length cV,.slice aI S.I.length cI,.slice aO S.O.length cO,.slice aR S.R.length cR] 26 (0,0))=w1 at b0 kS HS ⊢;have z1:w.heap.size<w1.heap.size:=zG kS;go_wp2_with fail;go_loopg [5,6] n (fun k v5 v6 wr=>∃ (i:Nat),i<=n/\k=n-i/\v6=.int .i64 (i:Nat)/\Hid (OwnL kInt w1.heap.size wr v5 ((S.R.take i).map (·.out)))/\Below w1.heap.size w1 wr)
 case atStart=>exact ⟨0,Nat.zero_le _,rfl,rfl,zE OwnL.nil,Below.refl _ _⟩
 case round=>
  obtain ⟨i,hi,rfl,rfl,HO,hbr⟩:=hrel;obtain ⟨aX,cX,eX,hcx1,hcx2⟩:=HO.out.form;have hlen:((S.R.take i).map (·.out)).length=i:=(by simp;omega);rw [hlen] at eX;subst eX;by_cases hlt:i<n
  case neg=>
   have hin:i=n:=(by omega);subst hin;go_wp2;go_ret;obtain ⟨D,⟨o1,o2⟩,o3⟩:=HO.out;refine ⟨_,rfl,⟨D,⟨o1,?_⟩,fun j hj=>kInt.wide (o3 j hj) fun q hq _=>⟨Nat.le_trans (Nat.le_of_lt z1) hq.1,hq.2⟩⟩,b0.trans (hbr.mono b0.size)⟩;rcases o2 with q | ⟨g,cap,cur,e1,e2,e3⟩
   ·exact .inl q
   ·exact .inr ⟨g,cap,cur,e1,Nat.le_trans (Nat.le_of_lt z1) e2,e3⟩
  case pos=>
   have hlr:i<S.R.length:=(by omega);have kSr:=(hbr.block _ z1).trans kS;have s3:=coQ kSr 3;simp at s3;obtain ⟨ao,cp,e1,-,-,hat⟩:=(HS.out.under hbr).R.at;injection e1 with q1 q2 q3;obtain ⟨bR,oR,y,hbR,yR,hrat,-⟩:=hat i hlr;rw [hbR] at q1;subst q1;obtain ⟨-,-,d2,-,-,-⟩:=hrat;have HL:=zE (show ((S.R.take i).map (·.out))++[(S.R[i]).out]=(S.R.take (i+1)).map (·.out) by rw [List.take_succ_eq_append_getElem hlr,List.map_append];rfl);generalize (S.R[i]).out=x at d2 HL;have HNb:=zE (fun k (e:(Value.slice aX i cX).ownBlock=some k)=>(HO.out.lt k e).2);have zB:=hbr.size;have qA:(((S.R.take i).map (·.out)).length+1)*8<=140737488355328:=(by rw [hlen];omega);have qB:((S.R.take i).map (·.out)).length+1<=maxLen:=(by rw [hlen];unfold maxLen;omega);have BF:=zE hbr;clear hat q2 q3 hbR kSr hlen hcx1 hcx2
   go_wp2_with (at_builtin;refine zQ kInt rfl _ _ 23 3 rfl Tryz.underlying23 w1.heap.size wr.heap.size _ ((S.R.take i).map (·.out)) (by rfl) HO.out [.int .i64 x] x rfl (by rfl) HNb.out zB zB qA qB ?_;intro v8 w8 own8 b8 _ _;have HO8:=zE own8;have HB8:=zE (BF.out.trans b8);clear own8 HO HNb b8)
   go_roundg (n-(i+1))
   case measure=>omega
   case rel=>exact ⟨i+1,by omega,rfl,by go_num,zE (by rw [<-HL.out];exact HO8.out),HB8.out⟩
namespace Sk
def pT:List Int:=[-1,0,1,1,2,3,2,2,1,3,3,1,2,2,0,1,1]
def partsD (op:Int):Int:=if 0<=op/\op<17 then pT.getD op.toNat 0 else -1
end Sk
theorem parts29_any (op:Int) (w:World):Calls Tryz.prog 29 #[.int .i64 op] w fun e w'=>e=.returned (.int .i64 (Sk.partsD op))/\Below w.heap.size w w':=by
 have b1:Below w.heap.size w (w.alloc (.cells (Sk.pT.map (Value.int .i64)).toArray 3 (0,0))):=(Below.refl _ _).alloc zM _;have kT:=zI w (.cells (Sk.pT.map (Value.int .i64)).toArray 3 (0,0));by_cases hr:0<=op/\op<17
 case neg=>
  have e:Sk.partsD op = -1:=(by unfold Sk.partsD;rw [if_neg hr]);rw [e];clear e;by_cases h0:op<0
  case pos=>
   go_enter Tryz.func29,Tryz.ntmps29;go_wp2;go_ret;exact ⟨rfl,b1⟩
  case neg=>
   have h17:17<=op:=(by omega);clear hr;go_enter Tryz.func29,Tryz.ntmps29;go_wp2;go_ret;exact ⟨rfl,b1⟩
 case pos=>
  obtain ⟨j,rfl⟩:∃ j:Nat,op=(j:Int):=⟨op.toNat,by omega⟩;have hj:j<17:=(by omega);have cT:=coQ kT j;have e:Sk.partsD (j:Int)=Sk.pT.getD j 0:=(by unfold Sk.partsD;rw [if_pos hr,Int.toNat_natCast]);have hjl:j<Sk.pT.length:=hj;have e2:(Sk.pT.map (Value.int .i64)).toArray[j]?=some (.int .i64 (Sk.pT.getD j 0)):=(by simp [List.getD_eq_getElem?_getD,hjl]);rw [e2] at cT;rw [e];generalize Sk.pT.getD j 0=z at cT ⊢;clear e e2 hr hjl;go_enter Tryz.func29,Tryz.ntmps29;go_upto_region 2 with fail;obtain ⟨w1,hw1⟩:=nmQ (w.alloc (.cells (Sk.pT.map (Value.int .i64)).toArray 3 (0,0)));rw [<-hw1] at b1 kT cT;have hw2:=hw1;unfold Sk.pT at hw2;simp only [List.map_cons,List.map_nil] at hw2;rw [<-hw2];clear hw1 hw2 kT;go_wp2;go_ret;exact ⟨rfl,b1⟩
end Go.Proofs.YtegakbobaecdlaaGreatDoor
