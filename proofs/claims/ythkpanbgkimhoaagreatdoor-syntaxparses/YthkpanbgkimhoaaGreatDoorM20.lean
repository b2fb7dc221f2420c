import Derived.Test.YthkpanbgkimhoaaGreatDoorM01
import Derived.Test.YthkpanbgkimhoaaGreatDoorM05
import Derived.Test.YthkpanbgkimhoaaGreatDoorM04
import Derived.Test.YthkpanbgkimhoaaGreatDoorM02
import Derived.Deep.QuietTactic
import Derived.BigQuiet
import Derived.Deep.DeepCutAuto
set_option linter.unusedVariables false
set_option linter.unusedSimpArgs false
set_option maxHeartbeats 64000000
set_option maxRecDepth 100000
namespace Go.Proofs.YthkpanbgkimhoaaGreatDoor.Tk
theorem scanR_fuel:∀ (f g:Nat) (l:List UInt8) (p:Nat),l.length≤f→l.length≤g→scanR f l p=scanR g l p:=by
 intro f
 induction f with
 | zero=>
  intro g l p hf hg;have:l=[]:=List.length_eq_zero_iff.1 (by omega);subst this
  cases g<;>simp [scanR]
 | succ f ih=>
  intro g l p hf hg
  cases l with
  | nil=>cases g<;>simp [scanR]
  | cons c l=>
   cases g with
   | zero=>simp at hg
   | succ g=>
    simp only [scanR];by_cases hcode:(read (c :: l)).code=0
    ·have hok:=read_ok (c :: l) (by simp) hcode
     have hlen:(List.drop (blankLen false (List.drop (read (c :: l)).text.length (c :: l))) (List.drop (read (c :: l)).text.length (c :: l))).length≤l.length:=by
      rw [List.length_drop,List.length_drop];simp only [List.length_cons] at *;omega
     simp only [List.length_cons] at hf hg;rw [ih g _ _ (by omega) (by omega)]
    ·rw [if_pos hcode,if_pos hcode]
def scanB (f:Nat) (l:List UInt8) (p:Nat):List Tok × Int × Int:=scanR f (l.drop (blankLen false l)) (p+blankLen false l)
theorem zDj (f:Nat) (l:List UInt8) (p:Nat) (hb:blankLen false l<l.length) (hcode:(read (l.drop (blankLen false l))).code=0) (acc:List Tok) :
  comb acc (scanB (f+1) l p)=comb (acc++[⟨(read (l.drop (blankLen false l))).kind,p+blankLen false l,(read (l.drop (blankLen false l))).text,(read (l.drop (blankLen false l))).n⟩])
   (scanB f ((l.drop (blankLen false l)).drop (read (l.drop (blankLen false l))).text.length) (p+blankLen false l+(read (l.drop (blankLen false l))).text.length)):=by
 unfold scanB;have hne:l.drop (blankLen false l)≠[]:=by
  intro e;have:=congrArg List.length e;rw [List.length_drop] at this;simp at this;omega
 rw [scanR_step f _ _ hne hcode];generalize l.drop (blankLen false l)=l' at *;have e1:List.drop (blankLen false (List.drop (read l').text.length l')) (List.drop (read l').text.length l')=List.drop (nextAt l') l':=by
  rw [List.drop_drop];rfl
 have e2:p+blankLen false l+(read l').text.length+blankLen false (List.drop (read l').text.length l')=p+blankLen false l+nextAt l':=(by unfold nextAt;omega);rw [e1,e2]
theorem zCe (a:List Tok) (q:List Tok × Int × Int):(comb a q).2.1=q.2.1:=by
 unfold comb;by_cases h:q.2.1=0<;>simp [h]
theorem scan_eq (l:List UInt8) (hl:l.length≤12000) (f:Nat) (hf:l.length≤f) (acc:List Tok):comb acc (scanB f l 0)=comb acc (scan l):=by
 unfold scan scanB;rw [if_neg (by omega),Nat.zero_add];rw [scanR_fuel f l.length _ _ (by rw [List.length_drop];omega) (by rw [List.length_drop];omega)]
theorem chain_place (l:List UInt8):∀ (ts:List Tok) (e:Nat),Chain l e ts→∀ t ∈ ts,t.place≤l.length
 | [],_,_,t,h=>by simp at h
 | t :: ts,e,h,u,hu=>by
  obtain ⟨h1,h2,h3,h4,_,h6⟩:=h;rcases List.mem_cons.1 hu with rfl | hu
  ·omega
  ·exact chain_place l ts _ h6 u hu
end Go.Proofs.YthkpanbgkimhoaaGreatDoor.Tk
namespace Go.Proofs.YthkpanbgkimhoaaGreatDoor.Tk
theorem read_cases (l:List UInt8) (h:(read l).code=0) :
  (runLen l=0∧signLen l≠0∧read l=⟨4,l.take (signLen l),0,0⟩) ∨
  (0<runLen l∧(read l).text=l.take (runLen l)∧(read l).kind≠0):=by
 unfold read at h ⊢;by_cases h0:runLen l=0
 ·left
  rw [if_pos h0] at h;rw [if_pos h0];unfold readSign at h ⊢;by_cases h1:signLen l=0
  ·simp [h1,bad] at h
  ·rw [if_neg h1];exact ⟨h0,h1,rfl⟩
 ·right
  rw [if_neg h0] at h;rw [if_neg h0];refine ⟨by omega,?_⟩;by_cases h1:isD ((l.headD 0).toNat:Int)=true
  ·rw [if_pos h1] at h ⊢
   unfold readNum at h ⊢;by_cases h2:badNum (l.take (runLen l))=true
   ·simp [h2,bad] at h
   ·rw [if_neg h2] at h ⊢
    by_cases h3:(l.take (runLen l)).all (fun c=>isD (c.toNat:Int))=true
    ·rw [if_pos h3];exact ⟨rfl,by simp⟩
    ·simp [h3,bad] at h
  ·rw [if_neg h1] at h ⊢
   unfold readName at h ⊢;by_cases h2:isWord (l.take (runLen l))=true
   ·rw [if_pos h2];exact ⟨rfl,by simp⟩
   ·rw [if_neg h2] at h ⊢
    by_cases h3:12<(l.take (runLen l)).length
    ·simp only [if_pos h3,bad] at h;simp at h
    ·rw [if_neg h3];exact ⟨rfl,by simp⟩
theorem read_kind (l:List UInt8) (h:(read l).code=0):(read l).kind≠0:=by
 rcases read_cases l h with ⟨_,_,e⟩ | ⟨_,_,e⟩
 ·rw [e];simp
 ·exact e
theorem scanB_ok (f:Nat) (l:List UInt8) (p:Nat) (hb:blankLen false l<l.length) (h:(scanB (f+1) l p).2.1=0) :
  (read (l.drop (blankLen false l))).code=0 ∧
  (scanB f ((l.drop (blankLen false l)).drop (read (l.drop (blankLen false l))).text.length) (p+blankLen false l+(read (l.drop (blankLen false l))).text.length)).2.1=0 ∧
  (scanB (f+1) l p).1=⟨(read (l.drop (blankLen false l))).kind,p+blankLen false l,(read (l.drop (blankLen false l))).text,(read (l.drop (blankLen false l))).n⟩ ::
   (scanB f ((l.drop (blankLen false l)).drop (read (l.drop (blankLen false l))).text.length) (p+blankLen false l+(read (l.drop (blankLen false l))).text.length)).1:=by
 have hne:l.drop (blankLen false l)≠[]:=by
  intro e;have:=congrArg List.length e;rw [List.length_drop] at this;simp at this;omega
 by_cases hcode:(read (l.drop (blankLen false l))).code=0
 ·have hs:=zDj f l p hb hcode []
  generalize hq:scanB f ((l.drop (blankLen false l)).drop (read (l.drop (blankLen false l))).text.length) (p+blankLen false l+(read (l.drop (blankLen false l))).text.length)=q at *;have hc:q.2.1=0:=by
   have:=congrArg (fun z=>z.2.1) hs;simp only [zCe] at this;rw [←this];exact h
  refine ⟨hcode,hc,?_⟩;have:=congrArg (fun z=>z.1) hs;unfold comb at this;rw [h] at this
  simpa [hc] using this
 ·have:=scanR_fault f (l.drop (blankLen false l)) (p+blankLen false l) hne hcode []
  have:=congrArg (fun z=>z.2.1) this;simp only [zCe] at this;exact absurd (this.symm.trans h) hcode
theorem zDM (f:Nat) (l:List UInt8) (p:Nat) (hb:¬blankLen false l<l.length):scanB f l p=([],0,0):=by
 have:=blankLen_le false l;unfold scanB;rw [List.drop_of_length_le (by omega)]
 cases f<;>simp [scanR]
theorem scanB_kinds:∀ (f:Nat) (l:List UInt8) (p:Nat),(scanB f l p).2.1=0→∀ t ∈ (scanB f l p).1,t.kind≠0:=by
 intro f
 induction f with
 | zero=>intro l p h t ht;simp [scanB,scanR] at ht
 | succ f ih=>
  intro l p h t ht;by_cases hb:blankLen false l<l.length
  ·obtain ⟨h1,h2,h3⟩:=scanB_ok f l p hb h
   rw [h3] at ht;rcases List.mem_cons.1 ht with rfl | ht
   ·exact read_kind _ h1
   ·exact ih _ _ h2 t ht
  ·rw [zDM _ _ _ hb] at ht;simp at ht
theorem zDN (l:List UInt8) (hl:l.length≤12000) (f:Nat) (hf:l.length≤f):(scanB f l 0).2.1=(scan l).2.1∧((scan l).2.1=0→(scanB f l 0).1=(scan l).1):=by
 have hx:=scan_eq l hl f hf [];have hc:(scanB f l 0).2.1=(scan l).2.1:=by
  have:=congrArg (fun z=>z.2.1) hx
  simpa only [zCe] using this
 refine ⟨hc,fun h0=>?_⟩;have:=congrArg (fun z=>z.1) hx;unfold comb at this;rw [hc] at this
 simpa [h0] using this
theorem scan_len (l:List UInt8) (h:(scan l).2.1=0):l.length≤12000:=by
 apply Classical.byContradiction
 intro hl;unfold scan at h;rw [if_pos (by omega)] at h;simp at h
theorem scan_kinds (l:List UInt8) (h:(scan l).2.1=0):∀ t ∈ (scan l).1,t.kind≠0:=by
 obtain ⟨h1,h2⟩:=zDN l (scan_len l h) l.length nR;rw [←h2 h];exact scanB_kinds _ _ _ (h1.trans h)
end Go.Proofs.YthkpanbgkimhoaaGreatDoor.Tk
namespace Go.Proofs.YthkpanbgkimhoaaGreatDoor
theorem pk_get (I:Inp) (n:Nat) (h:n<I.L.length):I.pk n=I.L[n]:=by unfold Inp.pk peekT;rw [dif_pos h]
theorem rel_self (t:List UInt8) (h:(Tk.scan t).2.1=0):Rel ⟨(Tk.scan t).1,t.length⟩ ⟨(Tk.scan t).1,t.length⟩ 0 0:=by
 have hk:=Tk.scan_kinds t h;have hp:=Tk.chain_place t _ _ (Tk.scan_chain t h);refine ⟨fun n hn=>rfl,fun n hn=>?_,fun n hn=>?_,Nat.le_refl _⟩
 ·rw [pk_get _ _ hn];exact hk _ (List.getElem_mem _)
 ·rw [pk_get _ _ hn];exact hp _ (List.getElem_mem _)
end Go.Proofs.YthkpanbgkimhoaaGreatDoor
namespace Go.Proofs.YthkpanbgkimhoaaGreatDoor.Tk
theorem num_fold:∀ (l:List UInt8) (a:Int),0≤a→l.all (fun c=>isD (c.toNat:Int))=true→0≤l.foldl (fun a c=>a*10+((c.toNat:Int)-48)) a∧l.foldl (fun a c=>a*10+((c.toNat:Int)-48)) a<(a+1)*(10:Int) ^ l.length
 | [],a,h,_=>by simp;omega
 | c :: l,a,h,hd=>by
  simp only [List.all_cons,Bool.and_eq_true] at hd;have hc:48≤(c.toNat:Int)∧(c.toNat:Int)≤57:=by
   have:=hd.1;unfold isD at this;simp at this;omega
  have ih:=num_fold l (a*10+((c.toNat:Int)-48)) (by omega) hd.2;simp only [List.foldl_cons,List.length_cons];refine ⟨ih.1,Int.lt_of_lt_of_le ih.2 ?_⟩;rw [Int.pow_succ,Int.mul_comm ((10:Int) ^ l.length) 10,←Int.mul_assoc];exact Int.mul_le_mul_of_nonneg_right (by omega) (Int.le_of_lt (Int.pow_pos (by omega)))
theorem num_bound (l:List UInt8) (h:l.all (fun c=>isD (c.toNat:Int))=true) (hl:l.length≤18):0≤numVal l∧numVal l<1000000000000000000:=by
 obtain ⟨h1,h2⟩:=num_fold l 0 (Int.le_refl _) h;refine ⟨h1,Int.lt_of_lt_of_le h2 ?_⟩;rw [show (0:Int)+1=1 from rfl,Int.one_mul];have h3:=Int.ofNat_le.2 (Nat.pow_le_pow_right (n:=10) (by decide) hl);rw [Int.natCast_pow] at h3;exact h3
def TokOk (k:Int) (t:List UInt8) (n:Int):Prop:=(0≤n∧n<1000000000000000000)∧((k=1∨k=4)∨(isWord t=false∧∃ c ∈ t,isR (c.toNat:Int)=true))
theorem word_head:∀ x ∈ words,isD ((x.headD 0).toNat:Int)=false:=by decide
theorem run_take (l:List UInt8) (h:0<runLen l):∃ c ∈ l.take (runLen l),isR (c.toNat:Int)=true∧(l.take (runLen l)).headD 0=l.headD 0:=by
 cases l with
 | nil=>simp [runLen] at h
 | cons c l=>
  have hc:isR (c.toNat:Int)=true:=by
   apply Classical.byContradiction
   intro hn;unfold runLen at h;rw [List.takeWhile_cons_of_neg (by simpa using hn)] at h;simp at h
  obtain ⟨k,hk⟩:∃ k,runLen (c :: l)=k+1:=⟨runLen (c :: l)-1,by omega⟩;rw [hk];exact ⟨c,by simp,hc,by simp⟩
theorem read_tok (l:List UInt8) (h:(read l).code=0):TokOk (read l).kind (read l).text (read l).n:=by
 unfold read at h ⊢;by_cases h0:runLen l=0
 ·rw [if_pos h0] at h ⊢
  unfold readSign at h ⊢;by_cases h1:signLen l=0
  ·simp [h1,bad] at h
  ·rw [if_neg h1];exact ⟨by simp,.inl (.inr rfl)⟩
 ·rw [if_neg h0] at h ⊢
  obtain ⟨c,hc,hR,hh⟩:=run_take l (by omega);by_cases h1:isD ((l.headD 0).toNat:Int)=true
  ·rw [if_pos h1] at h ⊢
   unfold readNum at h ⊢;by_cases h2:badNum (l.take (runLen l))=true
   ·simp [h2,bad] at h
   ·rw [if_neg h2] at h ⊢
    by_cases h3:(l.take (runLen l)).all (fun c=>isD (c.toNat:Int))=true
    ·rw [if_pos h3]
     refine ⟨num_bound _ h3 ?_,.inr ⟨?_,c,hc,hR⟩⟩
     ·unfold badNum at h2
      simp at h2;simp;omega
     ·cases hw:isWord (l.take (runLen l)) with
      | false=>rfl
      | true=>
       unfold isWord at hw;obtain ⟨x,hx,e⟩:=List.any_eq_true.1 hw;have e:l.take (runLen l)=x:=(by simpa using e);have:=word_head x hx;rw [←e,hh,h1] at this
       cases this
    ·simp [h3,bad] at h
  ·rw [if_neg h1] at h ⊢
   unfold readName at h ⊢;by_cases h2:isWord (l.take (runLen l))=true
   ·rw [if_pos h2];exact ⟨by simp,.inl (.inl rfl)⟩
   ·have h2:isWord (l.take (runLen l))=false:=by simpa using h2
    rw [h2] at h ⊢;by_cases h3:12<(l.take (runLen l)).length
    ·simp only [if_pos h3,bad] at h;simp at h
    ·simp only [if_neg h3]
     exact ⟨by simp,.inr ⟨h2,c,hc,hR⟩⟩
theorem scanB_toks:∀ (f:Nat) (l:List UInt8) (p:Nat),(scanB f l p).2.1=0→∀ t ∈ (scanB f l p).1,TokOk t.kind t.text t.n:=by
 intro f
 induction f with
 | zero=>intro l p h t ht;simp [scanB,scanR] at ht
 | succ f ih=>
  intro l p h t ht;by_cases hb:blankLen false l<l.length
  ·obtain ⟨h1,h2,h3⟩:=scanB_ok f l p hb h
   rw [h3] at ht;rcases List.mem_cons.1 ht with rfl | ht
   ·exact read_tok _ h1
   ·exact ih _ _ h2 t ht
  ·rw [zDM _ _ _ hb] at ht;simp at ht
theorem scan_toks (l:List UInt8) (h:(scan l).2.1=0):∀ t ∈ (scan l).1,TokOk t.kind t.text t.n:=by
 obtain ⟨h1,h2⟩:=zDN l (scan_len l h) l.length nR;rw [←h2 h];exact scanB_toks _ _ _ (h1.trans h)
end Go.Proofs.YthkpanbgkimhoaaGreatDoor.Tk
namespace Go.Proofs.YthkpanbgkimhoaaGreatDoor
theorem sure_scan (t:List UInt8) (h:(Tk.scan t).2.1=0):Sure ⟨(Tk.scan t).1,t.length⟩:=by
 have hr:=rel_self t h;have ht:=Tk.scan_toks t h;refine ⟨hr.kind,hr.place,fun n=>?_,fun s hs hne n=>?_⟩
 ·by_cases hn:n<(Tk.scan t).1.length
  ·rw [pk_get _ _ hn];exact (ht _ (List.getElem_mem _)).1
  ·rw [Inp.pk_end _ _ hn];simp
 ·unfold seesW Ps.sees
  by_cases hn:n<(Tk.scan t).1.length
  ·have hd:decide (n<(Tk.scan t).1.length)=true:=by simpa using hn
   show (decide (n<(Tk.scan t).1.length)&&_&&_)=_
   rw [hd,Bool.true_and,pk_get _ _ hn]
   show (((Tk.scan t).1[n]).text==s&&(((Tk.scan t).1[n]).kind==1 || ((Tk.scan t).1[n]).kind==4))=(((Tk.scan t).1[n]).text==s)
   have hT:=(ht _ (List.getElem_mem hn)).2;generalize (Tk.scan t).1[n]=u at hT ⊢
   cases hx:(u.text==s) with
   | false=>rfl
   | true=>
    have hx:u.text=s:=(by simpa using hx);rcases hT with hk | ⟨hw,c,hc,hR⟩
    ·rcases hk with hk | hk<;>simp [hk]
    ·exfalso
     rw [hx] at hw hc;rcases hs with hs | hs
     ·rw [hw] at hs;cases hs
     ·rw [hs.2 c hc] at hR;cases hR
  ·have hd:decide (n<(Tk.scan t).1.length)=false:=by simpa using hn
   show (decide (n<(Tk.scan t).1.length)&&_&&_)=_
   rw [hd,Inp.pk_end _ _ hn]
   show false=(([]:List UInt8)==s)
   cases s with
   | nil=>exact absurd rfl hne
   | cons a l=>rfl
end Go.Proofs.YthkpanbgkimhoaaGreatDoor
namespace Go.Proofs.YthkpanbgkimhoaaGreatDoor.Tk
theorem scanB_blank (f:Nat) (c:UInt8) (l:List UInt8) (p:Nat) (h:isB (c.toNat:Int)=true):scanB f (c :: l) p=scanB f l (p+1):=by
 have h35:¬(c.toNat:Int)=35:=(by simp [isB] at h;omega);have hs:stops false (c.toNat:Int)=false:=(by simp [stops,h]);have hf:flag false (c.toNat:Int)=false:=by unfold flag;split<;>simp [h35]
 unfold scanB;rw [blankLen_go _ _ _ hs,hf];have e1:p+(1+blankLen false l)=p+1+blankLen false l:=(by omega);have e2:1+blankLen false l=blankLen false l+1:=(by omega);rw [e1,e2,List.drop_succ_cons]
def scanM (f:Nat) (l:List UInt8) (p:Nat):List Tok × Int × Int:=scanR f (l.drop (blankLen true l)) (p+blankLen true l)
theorem scanM_step (f:Nat) (c:UInt8) (l:List UInt8) (p:Nat) (h:¬(c.toNat:Int)=10):scanM f (c :: l) p=scanM f l (p+1):=by
 have hf:flag true (c.toNat:Int)=true:=by unfold flag;rw [if_neg h];split<;>rfl
 have hs:stops true (c.toNat:Int)=false:=(by simp [stops,hf]);unfold scanM;rw [blankLen_go _ _ _ hs,hf];have e1:p+(1+blankLen true l)=p+1+blankLen true l:=(by omega);have e2:1+blankLen true l=blankLen true l+1:=(by omega);rw [e1,e2,List.drop_succ_cons]
theorem scanM_hash (f:Nat) (c:UInt8) (l:List UInt8) (p:Nat) (h:(c.toNat:Int)=35):scanB f (c :: l) p=scanM f (c :: l) p:=by
 have h':c.toNat=35:=(by omega);unfold scanB scanM;have e:blankLen false (c :: l)=blankLen true (c :: l):=(by simp [blankLen,h']);rw [e]
theorem scanM_nl (f:Nat) (c:UInt8) (l:List UInt8) (p:Nat) (h:(c.toNat:Int)=10):scanM f (c :: l) p=scanB f (c :: l) p:=by
 have h':c.toNat=10:=(by omega);unfold scanB scanM;have e:blankLen false (c :: l)=blankLen true (c :: l):=(by simp [blankLen,h']);rw [e]
theorem scanM_nil (f:Nat) (p:Nat):scanM f [] p=scanB f [] p:=rfl
theorem blank_none (c:UInt8) (l:List UInt8) (h1:isB (c.toNat:Int)=false) (h2:¬(c.toNat:Int)=35):blankLen false (c :: l)=0:=by
 apply blankLen_stop
 have h10:¬(c.toNat:Int)=10:=(by intro e;rw [e] at h1;simp [isB] at h1);simp [stops,flag,h10,h2,h1]
theorem scanB_tok (f:Nat) (l:List UInt8) (p:Nat) (hne:l≠[]) (h0:blankLen false l=0) (hcode:(read l).code=0) (acc:List Tok) :
  comb acc (scanB (f+1) l p)=comb (acc++[⟨(read l).kind,p,(read l).text,(read l).n⟩]) (scanB f (l.drop (read l).text.length) (p+(read l).text.length)):=by
 have hl:0<l.length:=List.length_pos_iff.2 hne;have:=zDj f l p (by omega) (by rw [h0];exact hcode) acc;rw [h0] at this
 simpa using this
theorem scanB_bad (f:Nat) (l:List UInt8) (p:Nat) (hne:l≠[]) (h0:blankLen false l=0) (hcode:(read l).code≠0) (acc:List Tok) :
  comb acc (scanB (f+1) l p)=([],(read l).code,(p:Int)):=by
 unfold scanB;rw [h0];exact scanR_fault f l p hne hcode acc
theorem scanB_end (f:Nat) (p:Nat) (acc:List Tok):comb acc (scanB f [] p)=(acc,0,0):=by
 unfold scanB;exact scanR_end f _ acc
theorem run_pos (c:UInt8) (l:List UInt8) (h:isR (c.toNat:Int)=true):0<runLen (c :: l):=by
 unfold runLen;rw [List.takeWhile_cons,if_pos h];simp
theorem run_zero (c:UInt8) (l:List UInt8) (h:isR (c.toNat:Int)=false):runLen (c :: l)=0:=by
 unfold runLen;rw [List.takeWhile_cons,if_neg (by rw [h];simp)];rfl
theorem read_name (c:UInt8) (l:List UInt8) (h:isL (c.toNat:Int)=true):read (c :: l)=readName ((c :: l).take (runLen (c :: l))):=by
 have h1:=run_pos c l (by simp [isR,h]);have h2:isD (c.toNat:Int)=false:=(by simp [isL] at h;simp [isD];omega);unfold read;rw [if_neg (by omega),List.headD_cons,if_neg (by rw [h2];simp)]
theorem read_num (c:UInt8) (l:List UInt8) (h:isD (c.toNat:Int)=true):read (c :: l)=readNum ((c :: l).take (runLen (c :: l))):=by
 have h1:=run_pos c l (by simp [isR,h]);unfold read;rw [if_neg (by omega),List.headD_cons,if_pos h]
theorem read_sign (c:UInt8) (l:List UInt8) (h:isL (c.toNat:Int)=false) (h':isD (c.toNat:Int)=false):read (c :: l)=readSign (c :: l):=by
 have h1:=run_zero c l (by simp [isR,h,h']);unfold read;rw [if_pos h1]
theorem zDY:∀ (l:List UInt8) (a:Int),0≤a→l.all (fun c=>isD (c.toNat:Int))=true→0≤l.foldl (fun a c=>a*10+((c.toNat:Int)-48)) a
 | [],a,h,_=>h
 | c :: l,a,h,ha=>by
  simp only [List.all_cons,Bool.and_eq_true] at ha;have h1:=ha.1;simp [isD] at h1;exact zDY l _ (show 0≤a*10+((c.toNat:Int)-48) by omega) ha.2
theorem numVal_nonneg (l:List UInt8) (h:l.all (fun c=>isD (c.toNat:Int))=true):0≤numVal l:=zDY l 0 (Int.le_refl _) h
theorem zCD (c:UInt8) (l:List UInt8):signLen (c :: l)=if (c==61&&l.head?==some 61) || (c==45&&l.head?==some 62) then 2 else if isS c then 1 else 0:=rfl
theorem signLen_two (c:UInt8) (l:List UInt8):signLen (c :: l)=2↔(c=61∧l.head?=some 61)∨(c=45∧l.head?=some 62):=by
 rw [zCD]
 constructor
 ·intro h
  split at h
  ·rename_i h1;simpa using h1
  ·split at h<;>simp at h
 ·intro h
  rw [if_pos (by simpa using h)]
theorem signLen_one (c:UInt8) (l:List UInt8) (h:signLen (c :: l)≠2):signLen (c :: l)=if isS c then 1 else 0:=by
 rw [zCD] at h ⊢
 split
 ·rename_i h1;rw [if_pos h1] at h;exact absurd rfl h
 ·rfl
end Go.Proofs.YthkpanbgkimhoaaGreatDoor.Tk
namespace Go.Proofs.YthkpanbgkimhoaaGreatDoor
open Go.RowKit Go.IntWalk
theorem zCB (s:ByteArray) (t:List UInt8) (p n:Nat) (h:t=(s.data.toList.drop p).take n):str t=s.extract p (p+n):=by
 apply ByteArray.ext
 apply Array.toList_inj.1
 rw [qR,Nat.add_sub_cancel_left,←h];simp [str]
theorem zBG {w w1 w2:World} {acc:List Tk.Tok} {u v:Value} {K N:Int} {p:Nat} {t:List UInt8} {tx:ByteArray} (htx:str t=tx)
  (hown1:w1.ownsRow (w.heap.size+1) 71 4 u acc.length (toksCells acc)) (hbw:Below (w.heap.size+1) (w.alloc (.cells #[.int .i64 0,.int .i64 0] 27)) w1) (hzw:w.heap.size<w1.heap.size) {o:Obj}
  (hown2:w2.ownsRow (w.heap.size+1) 71 4 v (acc.length+1) (toksCells acc++[.int .i64 K,.int .i64 (p:Int),.string tx,.int .i64 N])) (hgrow:(w1.alloc o).grownBy w2 u.ownBlock) :
  w2.ownsRow (w.heap.size+1) 71 4 v (acc++[(⟨K,p,t,N⟩:Tk.Tok)]).length (toksCells (acc++[(⟨K,p,t,N⟩:Tk.Tok)]))∧Below (w.heap.size+1) (w.alloc (.cells #[.int .i64 0,.int .i64 0] 27)) w2:=by
 constructor
 ·have e1:(acc++[(⟨K,p,t,N⟩:Tk.Tok)]).length=acc.length+1:=by simp
  have e2:toksCells (acc++[(⟨K,p,t,N⟩:Tk.Tok)])=toksCells acc++[Value.int .i64 K,.int .i64 (p:Int),.string tx,.int .i64 N]:=(by simp [toksCells,tokCells,htx]);rw [e1,e2];exact hown2
 ·exact (hbw.alloc hzw _).grown hgrow (by simp;omega) (fun k hk=>(hown1.lt k hk).1)
theorem new4 (w:World) (a b c d:Value) (j:Nat) (u:Value) (hj:[a,b,c,d][j]?=some u):(w.alloc (.cells #[a,b,c,d] 71)).cell? ((⟨w.heap.size,0,none⟩:Addr).add j)=some u:=by
 match j,hj with
 | 0,hj=>simp at hj;subst hj;simp [Addr.add]
 | 1,hj=>simp at hj;subst hj;simp [Addr.add]
 | 2,hj=>simp at hj;subst hj;simp [Addr.add]
 | 3,hj=>simp at hj;subst hj;simp [Addr.add]
theorem readNum_neg (t:List UInt8) (h:numR t<0):Tk.readNum t=Tk.bad 2:=by
 unfold numR at h;unfold Tk.readNum
 split
 ·rfl
 ·rename_i h1
  rw [if_neg h1] at h
  split
  ·rename_i h2
   rw [if_pos h2] at h;have:=Tk.numVal_nonneg t h2;omega
  ·rfl
theorem readNum_pos (t:List UInt8) (h:¬numR t<0):Tk.readNum t=⟨3,t,numR t,0⟩:=by
 unfold numR at h ⊢;unfold Tk.readNum
 split
 ·rename_i h1
  rw [if_pos h1] at h;simp at h
 ·rename_i h1
  rw [if_neg h1] at h
  split
  ·rfl
  ·rename_i h2
   rw [if_neg h2] at h;simp at h
theorem ext2 (s:ByteArray) (p:Nat) (hp:p<s.size) (hp1:p+1<s.size):(s.extract p (p+2)).toList=[s[p],s[p+1]]:=by
 rw [Lib.toList_data,qR,Nat.add_sub_cancel_left];have e1:s.data.toList.drop p=s[p] :: s.data.toList.drop (p+1):=List.drop_eq_getElem_cons (by simpa using hp);have e2:s.data.toList.drop (p+1)=s[p+1] :: s.data.toList.drop (p+1+1):=List.drop_eq_getElem_cons (by simpa using hp1);rw [e1,e2];rfl
theorem head_next (s:ByteArray) (p:Nat) (hp1:p+1<s.size):(s.data.toList.drop (p+1)).head?=some s[p+1]:=by
 have e2:s.data.toList.drop (p+1)=s[p+1] :: s.data.toList.drop (p+1+1):=List.drop_eq_getElem_cons (by simpa using hp1);rw [e2];rfl
theorem two_yes (s:ByteArray) (p:Nat) (hp:p<s.size) (h:Tk.signLen (s[p] :: s.data.toList.drop (p+1))=2) :
  p+1<s.size∧(((s.extract p (p+2)).toList==[61,61])=true∨(((s.extract p (p+2)).toList==[61,61])=false∧((s.extract p (p+2)).toList==[45,62])=true)):=by
 rw [Tk.signLen_two] at h;have hp1:p+1<s.size:=by
  by_cases h1:p+1<s.size
  ·exact h1
  ·exfalso
   rw [List.drop_of_length_le (by rw [←Lib.size_eq];omega)] at h;simp at h
 refine ⟨hp1,?_⟩;rw [head_next s p hp1] at h;rw [ext2 s p hp hp1];rcases h with ⟨h1,h2⟩ | ⟨h1,h2⟩
 ·injection h2 with h2
  left
  rw [h1,h2];rfl
 ·injection h2 with h2
  right
  rw [h1,h2];exact ⟨rfl,rfl⟩
theorem two_no (s:ByteArray) (p:Nat) (hp:p<s.size) (h:Tk.signLen (s[p] :: s.data.toList.drop (p+1))≠2) (hp1:p+1<s.size) :
  ((s.extract p (p+2)).toList==[61,61])=false∧((s.extract p (p+2)).toList==[45,62])=false:=by
 rw [ne_eq,Tk.signLen_two,head_next s p hp1] at h;rw [ext2 s p hp hp1]
 constructor
 ·rw [beq_eq_false_iff_ne]
  intro e;injection e with e1 e2;injection e2 with e2;exact h (Or.inl ⟨e1,by rw [e2]⟩)
 ·rw [beq_eq_false_iff_ne]
  intro e;injection e with e1 e2;injection e2 with e2;exact h (Or.inr ⟨e1,by rw [e2]⟩)
theorem xM (c:UInt8) (k:Nat) (hk:k<256):((c.toNat:Int)==(k:Int))=(c==UInt8.ofNat k):=by
 rw [Bool.eq_iff_iff,beq_iff_eq,beq_iff_eq]
 constructor
 ·intro h
  apply UInt8.toNat_inj.1
  rw [UInt8.toNat_ofNat'];omega
 ·intro h
  rw [h,UInt8.toNat_ofNat'];omega
theorem zBx (ρ:Operand→Value) (o:Oper) (x:Operand) (ho:o.op=.move x) (w:World):(execOp ρ o).run Tryz.prog w=.ok (.value (ρ x)) w:=by
 unfold execOp;rw [ho];rfl
theorem run_assign (ρ:Operand→Value) (o:Oper) (x:Operand) (ho:o.op=.assign x) (w:World):(execOp ρ o).run Tryz.prog w=.ok (.value (ρ x)) w:=by
 unfold execOp;rw [ho];rfl
theorem run_pick (ρ:Operand→Value) (o:Oper) (x y z:Operand) (b:Bool) (ho:o.op=.pick x y z) (hb:ρ x=.bool b) (w:World):(execOp ρ o).run Tryz.prog w=.ok (.value (if b then ρ y else ρ z)) w:=by
 unfold execOp;rw [ho];simp [hb,go_sem]
theorem run_eql (ρ:Operand→Value) (o:Oper) (x:Nat) (c k:Int) (ho:o.op=.binOp .eql 5 (.tmp x) (.const (.int .u8 k)) 5) (hx:ρ (.tmp x)=.int .u8 c) (hk:ρ (.const (.int .u8 k))=.int .u8 k) (w:World) :
  (execOp ρ o).run Tryz.prog w=.ok (.value (.bool (c==k))) w:=by
 unfold execOp;rw [ho];simp [hx,hk,go_sem,Tryz.underlying5]
structure Kept (lo hi:Nat) (a0 a:Act) (z:Nat) (b:Bool):Prop where
 size:a.tmps.size=a0.tmps.size
 defers:a.defers=a0.defers
 out:∀ i,i<lo∨hi<i→a.tmps[i]?=a0.tmps[i]?
 ans:a.tmps[z]?=some (.bool b)
theorem vC (a:Act) (d:Nat) (v:Value) (i:Nat) (h:i≠d):(a.put (some d) v).tmps[i]?=a.tmps[i]?:=by
 unfold Act.put;simp [Array.getElem?_setIfInBounds];intro e;exact absurd e.symm h
theorem zAB (a:Act) (d:Nat) (v:Value) (h:d<a.tmps.size):(a.put (some d) v).tmps[d]?=some v:=by
 unfold Act.put;simp [Array.getElem?_setIfInBounds,h]
theorem qH (a:Act) (d:Nat) (v:Value):(a.put (some d) v).tmps.size=a.tmps.size:=by
 unfold Act.put;simp
theorem qQ (a:Act) (d:Nat) (v:Value):(a.put (some d) v).defers=a.defers:=rfl
theorem zAM {a:Act} {i:Nat} {v:Value} (h:a.tmps[i]?=some v):a.eval (.tmp i)=v:=by
 unfold Act.eval;simp [Array.getD_eq_getD_getElem?,h]
theorem qY {ops:Array Oper} {Q:Exit→Act→World→Prop} {rest:List Oper} {a0 a:Act} {w:World} {o1 o2 o3 o4:Oper} {c:Int} {b:Bool} (lo hi s g z x1 x2 x3 x4:Nat) (k:Int)
  (hs:a0.tmps[s]?=some (.int .u8 c)) (hslo:s<lo) (hhi:hi<a0.tmps.size)
  (p1:o1.op=.move (.tmp s)) (p2:o2.op=.binOp .eql 5 (.tmp x1) (.const (.int .u8 k)) 5) (p3:o3.op=.pick (.tmp z) (.const (.bool true)) (.tmp x2)) (p4:o4.op=.move (.tmp x3)∨o4.op=.assign (.tmp x3))
  (d1:o1.dst=some x1) (d2:o2.dst=some x2) (d3:o3.dst=some x3) (d4:o4.dst=some x4)
  (g1:o1.guard=some (g,false)) (g2:o2.guard=some (g,false)) (g3:o3.guard=none) (g4:o4.guard=none)
  (hg:(ops[g]?).bind (·.dst)=some z)
  (n1:lo≤x1∧x1≤hi∧x1≠z) (n2:lo≤x2∧x2≤hi∧x2≠z∧x2≠x1) (n3:lo≤x3∧x3≤hi) (n4:lo≤x4∧x4≤hi) 
  (hK:Kept lo hi a0 a z b)
  (h:∀ a',Kept lo hi a0 a' x4 (b || c==k)→wpList Tryz.prog ops Q rest a' w):wpList Tryz.prog ops Q (o1 :: o2 :: o3 :: o4 :: rest) a w:=by
 have hsz:hi<a.tmps.size:=(by rw [hK.size];exact hhi);have hes:a.tmps[s]?=some (.int .u8 c):=(by rw [hK.out s (Or.inl hslo)];exact hs);have hy:∀ a':Act,a'.tmps[z]?=some (.bool b)→yielded ops a'.tmps g=some b:=by
  intro a' h';unfold yielded;rw [hg];simp [h']
 -- the tail: from the pick on
 have tail:∀ a2:Act,a2.tmps.size=a0.tmps.size→a2.defers=a0.defers→(∀ i,i<lo∨hi<i→a2.tmps[i]?=a0.tmps[i]?)→a2.tmps[z]?=some (.bool b)→(b=false→a2.tmps[x2]?=some (.bool (c==k))) →
   wpList Tryz.prog ops Q (o3 :: o4 :: rest) a2 w:=by
  intro a2 s2 f2 u2 z2 e2;refine wpList_plain g3 fun K hKK=>?_
  show Oper.upon _ _ _ _ _ ((execOp a2.eval o3).run Tryz.prog w)
  rw [run_pick a2.eval o3 _ _ _ b p3 (zAM z2),Oper.upon_value,d3];have hv:(if b then a2.eval (.const (.bool true)) else a2.eval (.tmp x2))=.bool (b || c==k):=by
   cases b
   ·simp [zAM (e2 rfl)]
   ·rfl
  rw [hv]
  apply hKK
  refine wpList_plain g4 fun K' hK'=>?_
  show Oper.upon _ _ _ _ _ ((execOp (a2.put (some x3) (.bool (b || c==k))).eval o4).run Tryz.prog w)
  have hx3:(a2.put (some x3) (.bool (b || c==k))).eval (.tmp x3)=.bool (b || c==k):=zAM (zAB _ _ _ (by omega));have hrun:(execOp (a2.put (some x3) (.bool (b || c==k))).eval o4).run Tryz.prog w=.ok (.value (.bool (b || c==k))) w:=by
   rcases p4 with p4 | p4
   ·rw [zBx _ o4 _ p4,hx3]
   ·rw [run_assign _ o4 _ p4,hx3]
  rw [hrun,Oper.upon_value,d4]
  apply hK'
  apply h
  refine ⟨by rw [qH,qH,s2],by rw [qQ,qQ,f2],?_,zAB _ _ _ (by rw [qH];omega)⟩;intro i hi';rw [vC _ _ _ _ (by omega),vC _ _ _ _ (by omega)];exact u2 i hi'
 cases b with
 | true=>
  refine wpList_step fun K hKK=>?_;rw [if_neg (by unfold Region.wanted;rw [g1];simp [hy a hK.ans]),d1]
  apply hKK
  refine wpList_step fun K' hK'=>?_;have z1:(a.put (some x1) undef).tmps[z]?=some (.bool true):=(by rw [vC _ _ _ _ (by omega)];exact hK.ans);rw [if_neg (by unfold Region.wanted;rw [g2];simp [hy _ z1]),d2]
  apply hK'
  apply tail
  ·rw [qH,qH];exact hK.size
  ·rw [qQ,qQ];exact hK.defers
  ·intro i hi'
   rw [vC _ _ _ _ (by omega),vC _ _ _ _ (by omega)];exact hK.out i hi'
  ·rw [vC _ _ _ _ (by omega)];exact z1
  ·intro e;cases e
 | false=>
  refine wpList_step fun K hKK=>?_;rw [if_pos (by unfold Region.wanted;rw [g1];simp [hy a hK.ans])]
  show Oper.upon _ _ _ _ _ ((execOp a.eval o1).run Tryz.prog w)
  rw [zBx _ o1 _ p1,zAM hes,Oper.upon_value,d1]
  apply hKK
  refine wpList_step fun K' hK'=>?_;have z1:(a.put (some x1) (.int .u8 c)).tmps[z]?=some (.bool false):=(by rw [vC _ _ _ _ (by omega)];exact hK.ans);rw [if_pos (by unfold Region.wanted;rw [g2];simp [hy _ z1])]
  show Oper.upon _ _ _ _ _ ((execOp (a.put (some x1) (.int .u8 c)).eval o2).run Tryz.prog w)
  rw [run_eql _ o2 x1 c k p2 (zAM (zAB _ _ _ (by omega))) rfl,Oper.upon_value,d2]
  apply hK'
  apply tail
  ·rw [qH,qH];exact hK.size
  ·rw [qQ,qQ];exact hK.defers
  ·intro i hi'
   rw [vC _ _ _ _ (by omega),vC _ _ _ _ (by omega)];exact hK.out i hi'
  ·rw [vC _ _ _ _ (by omega)];exact z1
  ·intro _
   exact zAB _ _ _ (by rw [qH];omega)
theorem zCv {ops:Array Oper} {Q:Exit→Act→World→Prop} {rest:List Oper} {a0:Act} {w:World} {o1 o2 o3:Oper} {c:Int} (lo hi s x1 x2 x3:Nat) (k:Int)
  (hs:a0.tmps[s]?=some (.int .u8 c)) (hslo:s<lo) (hhi:hi<a0.tmps.size)
  (p1:o1.op=.move (.tmp s)) (p2:o2.op=.binOp .eql 5 (.tmp x1) (.const (.int .u8 k)) 5) (p3:o3.op=.move (.tmp x2))
  (d1:o1.dst=some x1) (d2:o2.dst=some x2) (d3:o3.dst=some x3)
  (g1:o1.guard=none) (g2:o2.guard=none) (g3:o3.guard=none)
  (n1:lo≤x1∧x1≤hi) (n2:lo≤x2∧x2≤hi) (n3:lo≤x3∧x3≤hi)
  (h:∀ a',Kept lo hi a0 a' x3 (c==k)→wpList Tryz.prog ops Q rest a' w):wpList Tryz.prog ops Q (o1 :: o2 :: o3 :: rest) a0 w:=by
 refine wpList_plain g1 fun K hK=>?_
 show Oper.upon _ _ _ _ _ ((execOp a0.eval o1).run Tryz.prog w)
 rw [zBx _ o1 _ p1,zAM hs,Oper.upon_value,d1]
 apply hK
 refine wpList_plain g2 fun K hK=>?_
 show Oper.upon _ _ _ _ _ ((execOp (a0.put (some x1) (.int .u8 c)).eval o2).run Tryz.prog w)
 rw [run_eql _ o2 x1 c k p2 (zAM (zAB _ _ _ (by omega))) rfl,Oper.upon_value,d2]
 apply hK
 refine wpList_plain g3 fun K hK=>?_
 show Oper.upon _ _ _ _ _ ((execOp ((a0.put (some x1) (.int .u8 c)).put (some x2) (.bool (c==k))).eval o3).run Tryz.prog w)
 rw [zBx _ o3 _ p3,zAM (zAB _ _ _ (by rw [qH];omega)),Oper.upon_value,d3]
 apply hK
 apply h
 refine ⟨by rw [qH,qH,qH],by rw [qQ,qQ,qQ],?_,zAB _ _ _ (by rw [qH,qH];omega)⟩;intro i hi';rw [vC _ _ _ _ (by omega),vC _ _ _ _ (by omega),vC _ _ _ _ (by omega)]
theorem name_act {p:Act→Prop} {a:Act} (h:∀ a0,a0=a→p a0):p a:=h a rfl
theorem zCw {lo hi:Nat} {a0 a:Act} {b:Bool} (hK:Kept lo hi a0 a lo b) (hlh:lo≤hi) (hhi:hi<a0.tmps.size) :
  ∃ rest:List Value,rest.length=hi-lo∧a=⟨(a0.tmps.toList.take lo++(Value.bool b :: rest)++a0.tmps.toList.drop (hi+1)).toArray,a0.defers⟩:=by
 have hl:a.tmps.toList.length=a0.tmps.toList.length:=(by simpa using hK.size);have hl0:hi<a0.tmps.toList.length:=(by simpa using hhi);have hget:∀ i,i<lo∨hi<i→a.tmps.toList[i]?=a0.tmps.toList[i]?:=fun i h=>by
  have:=hK.out i h
  simpa using this
 have hans:a.tmps.toList[lo]?=some (.bool b):=(by simpa using hK.ans);refine ⟨(a.tmps.toList.drop (lo+1)).take (hi-lo),?_,?_⟩
 ·rw [List.length_take,List.length_drop];omega
 ·have key:a.tmps.toList=a0.tmps.toList.take lo++(Value.bool b :: (a.tmps.toList.drop (lo+1)).take (hi-lo))++a0.tmps.toList.drop (hi+1):=by
   apply List.ext_getElem?
   intro i;have hlt:(a0.tmps.toList.take lo).length=lo:=(by rw [List.length_take];omega);have hlm:(Value.bool b :: (a.tmps.toList.drop (lo+1)).take (hi-lo)).length=hi-lo+1:=(by rw [List.length_cons,List.length_take,List.length_drop];omega);by_cases h1:i<lo
   ·rw [List.append_assoc,List.getElem?_append_left (by omega),List.getElem?_take_of_lt h1]
    exact hget i (Or.inl h1)
   ·by_cases h2:i≤hi
    ·rw [List.append_assoc,List.getElem?_append_right (by omega),hlt,List.getElem?_append_left (by rw [hlm];omega)]
     by_cases h3:i=lo
     ·subst h3
      rw [Nat.sub_self,hans];rfl
     ·obtain ⟨j,rfl⟩:∃ j,i=lo+1+j:=⟨i-lo-1,by omega⟩
      have e:lo+1+j-lo=j+1:=(by omega);rw [e,gS,List.getElem?_take_of_lt (by omega),List.getElem?_drop]
    ·rw [List.getElem?_append_right (by rw [List.length_append,hlt,hlm];omega),List.length_append,hlt,hlm,List.getElem?_drop]
     have e:hi+1+(i-(lo+(hi-lo+1)))=i:=(by omega);rw [e];exact hget i (Or.inr (by omega))
  obtain ⟨tm,df⟩:=a;have hd:df=a0.defers:=hK.defers;subst hd
  congr 1
  apply Array.toList_inj.1
  rw [List.toList_toArray];exact key
theorem zO {n:Nat}:∀ l:List Value,l.length=n+1→∃ v l',l=v :: l'∧l'.length=n
 | [],h=>by simp at h
 | v :: l',h=>⟨v,l',rfl,by simpa using h⟩
theorem split70 (l:List Value) (h:l.length=70):∃ v1 v2 v3 v4 v5 v6 v7 v8 v9 v10 v11 v12 v13 v14 v15 v16 v17 v18 v19 v20 v21 v22 v23 v24 v25 v26 v27 v28 v29 v30 v31 v32 v33 v34 v35 v36 v37 v38 v39 v40 v41 v42 v43 v44 v45 v46 v47 v48 v49 v50 v51 v52 v53 v54 v55 v56 v57 v58 v59 v60 v61 v62 v63 v64 v65 v66 v67 v68 v69 v70,l=v1 :: v2 :: v3 :: v4 :: v5 :: v6 :: v7 :: v8 :: v9 :: v10 :: v11 :: v12 :: v13 :: v14 :: v15 :: v16 :: v17 :: v18 :: v19 :: v20 :: v21 :: v22 :: v23 :: v24 :: v25 :: v26 :: v27 :: v28 :: v29 :: v30 :: v31 :: v32 :: v33 :: v34 :: v35 :: v36 :: v37 :: v38 :: v39 :: v40 :: v41 :: v42 :: v43 :: v44 :: v45 :: v46 :: v47 :: v48 :: v49 :: v50 :: v51 :: v52 :: v53 :: v54 :: v55 :: v56 :: v57 :: v58 :: v59 :: v60 :: v61 :: v62 :: v63 :: v64 :: v65 :: v66 :: v67 :: v68 :: v69 :: v70 :: []:=by
 obtain ⟨v1,l1,e1,h1⟩:=zO l h;obtain ⟨v2,l2,e2,h2⟩:=zO l1 h1;obtain ⟨v3,l3,e3,h3⟩:=zO l2 h2;obtain ⟨v4,l4,e4,h4⟩:=zO l3 h3;obtain ⟨v5,l5,e5,h5⟩:=zO l4 h4;obtain ⟨v6,l6,e6,h6⟩:=zO l5 h5;obtain ⟨v7,l7,e7,h7⟩:=zO l6 h6;obtain ⟨v8,l8,e8,h8⟩:=zO l7 h7;obtain ⟨v9,l9,e9,h9⟩:=zO l8 h8;obtain ⟨v10,l10,e10,h10⟩:=zO l9 h9;obtain ⟨v11,l11,e11,h11⟩:=zO l10 h10;obtain ⟨v12,l12,e12,h12⟩:=zO l11 h11;obtain ⟨v13,l13,e13,h13⟩:=zO l12 h12;obtain ⟨v14,l14,e14,h14⟩:=zO l13 h13;obtain ⟨v15,l15,e15,h15⟩:=zO l14 h14;obtain ⟨v16,l16,e16,h16⟩:=zO l15 h15;obtain ⟨v17,l17,e17,h17⟩:=zO l16 h16;obtain ⟨v18,l18,e18,h18⟩:=zO l17 h17;obtain ⟨v19,l19,e19,h19⟩:=zO l18 h18;obtain ⟨v20,l20,e20,h20⟩:=zO l19 h19;obtain ⟨v21,l21,e21,h21⟩:=zO l20 h20;obtain ⟨v22,l22,e22,h22⟩:=zO l21 h21;obtain ⟨v23,l23,e23,h23⟩:=zO l22 h22;obtain ⟨v24,l24,e24,h24⟩:=zO l23 h23;obtain ⟨v25,l25,e25,h25⟩:=zO l24 h24;obtain ⟨v26,l26,e26,h26⟩:=zO l25 h25;obtain ⟨v27,l27,e27,h27⟩:=zO l26 h26;obtain ⟨v28,l28,e28,h28⟩:=zO l27 h27;obtain ⟨v29,l29,e29,h29⟩:=zO l28 h28;obtain ⟨v30,l30,e30,h30⟩:=zO l29 h29;obtain ⟨v31,l31,e31,h31⟩:=zO l30 h30;obtain ⟨v32,l32,e32,h32⟩:=zO l31 h31;obtain ⟨v33,l33,e33,h33⟩:=zO l32 h32;obtain ⟨v34,l34,e34,h34⟩:=zO l33 h33;obtain ⟨v35,l35,e35,h35⟩:=zO l34 h34;obtain ⟨v36,l36,e36,h36⟩:=zO l35 h35;obtain ⟨v37,l37,e37,h37⟩:=zO l36 h36;obtain ⟨v38,l38,e38,h38⟩:=zO l37 h37;obtain ⟨v39,l39,e39,h39⟩:=zO l38 h38;obtain ⟨v40,l40,e40,h40⟩:=zO l39 h39;obtain ⟨v41,l41,e41,h41⟩:=zO l40 h40;obtain ⟨v42,l42,e42,h42⟩:=zO l41 h41;obtain ⟨v43,l43,e43,h43⟩:=zO l42 h42;obtain ⟨v44,l44,e44,h44⟩:=zO l43 h43;obtain ⟨v45,l45,e45,h45⟩:=zO l44 h44;obtain ⟨v46,l46,e46,h46⟩:=zO l45 h45;obtain ⟨v47,l47,e47,h47⟩:=zO l46 h46;obtain ⟨v48,l48,e48,h48⟩:=zO l47 h47;obtain ⟨v49,l49,e49,h49⟩:=zO l48 h48;obtain ⟨v50,l50,e50,h50⟩:=zO l49 h49;obtain ⟨v51,l51,e51,h51⟩:=zO l50 h50;obtain ⟨v52,l52,e52,h52⟩:=zO l51 h51;obtain ⟨v53,l53,e53,h53⟩:=zO l52 h52;obtain ⟨v54,l54,e54,h54⟩:=zO l53 h53;obtain ⟨v55,l55,e55,h55⟩:=zO l54 h54;obtain ⟨v56,l56,e56,h56⟩:=zO l55 h55;obtain ⟨v57,l57,e57,h57⟩:=zO l56 h56;obtain ⟨v58,l58,e58,h58⟩:=zO l57 h57;obtain ⟨v59,l59,e59,h59⟩:=zO l58 h58;obtain ⟨v60,l60,e60,h60⟩:=zO l59 h59;obtain ⟨v61,l61,e61,h61⟩:=zO l60 h60;obtain ⟨v62,l62,e62,h62⟩:=zO l61 h61;obtain ⟨v63,l63,e63,h63⟩:=zO l62 h62;obtain ⟨v64,l64,e64,h64⟩:=zO l63 h63;obtain ⟨v65,l65,e65,h65⟩:=zO l64 h64;obtain ⟨v66,l66,e66,h66⟩:=zO l65 h65;obtain ⟨v67,l67,e67,h67⟩:=zO l66 h66;obtain ⟨v68,l68,e68,h68⟩:=zO l67 h67;obtain ⟨v69,l69,e69,h69⟩:=zO l68 h68;obtain ⟨v70,l70,e70,h70⟩:=zO l69 h69;have e71:l70=[]:=List.length_eq_zero_iff.1 h70;exact ⟨v1,v2,v3,v4,v5,v6,v7,v8,v9,v10,v11,v12,v13,v14,v15,v16,v17,v18,v19,v20,v21,v22,v23,v24,v25,v26,v27,v28,v29,v30,v31,v32,v33,v34,v35,v36,v37,v38,v39,v40,v41,v42,v43,v44,v45,v46,v47,v48,v49,v50,v51,v52,v53,v54,v55,v56,v57,v58,v59,v60,v61,v62,v63,v64,v65,v66,v67,v68,v69,v70,by rw [e1,e2,e3,e4,e5,e6,e7,e8,e9,e10,e11,e12,e13,e14,e15,e16,e17,e18,e19,e20,e21,e22,e23,e24,e25,e26,e27,e28,e29,e30,e31,e32,e33,e34,e35,e36,e37,e38,e39,e40,e41,e42,e43,e44,e45,e46,e47,e48,e49,e50,e51,e52,e53,e54,e55,e56,e57,e58,e59,e60,e61,e62,e63,e64,e65,e66,e67,e68,e69,e70,e71]⟩
theorem signs_or (c:UInt8):(((((((((((((((((((c.toNat:Int)==40) || (c.toNat:Int)==41) || (c.toNat:Int)==123) || (c.toNat:Int)==125) || (c.toNat:Int)==91) || (c.toNat:Int)==93) || (c.toNat:Int)==60) || (c.toNat:Int)==62) || (c.toNat:Int)==44) || (c.toNat:Int)==59) || (c.toNat:Int)==58) || (c.toNat:Int)==43) || (c.toNat:Int)==45) || (c.toNat:Int)==42) || (c.toNat:Int)==47) || (c.toNat:Int)==37) || (c.toNat:Int)==61) || (c.toNat:Int)==94)=Tk.isS c:=by
 rw [show ((c.toNat:Int)==40)=(c==40) from xM c 40 (by decide)];rw [show ((c.toNat:Int)==41)=(c==41) from xM c 41 (by decide)];rw [show ((c.toNat:Int)==123)=(c==123) from xM c 123 (by decide)];rw [show ((c.toNat:Int)==125)=(c==125) from xM c 125 (by decide)];rw [show ((c.toNat:Int)==91)=(c==91) from xM c 91 (by decide)];rw [show ((c.toNat:Int)==93)=(c==93) from xM c 93 (by decide)];rw [show ((c.toNat:Int)==60)=(c==60) from xM c 60 (by decide)];rw [show ((c.toNat:Int)==62)=(c==62) from xM c 62 (by decide)];rw [show ((c.toNat:Int)==44)=(c==44) from xM c 44 (by decide)];rw [show ((c.toNat:Int)==59)=(c==59) from xM c 59 (by decide)];rw [show ((c.toNat:Int)==58)=(c==58) from xM c 58 (by decide)];rw [show ((c.toNat:Int)==43)=(c==43) from xM c 43 (by decide)];rw [show ((c.toNat:Int)==45)=(c==45) from xM c 45 (by decide)];rw [show ((c.toNat:Int)==42)=(c==42) from xM c 42 (by decide)];rw [show ((c.toNat:Int)==47)=(c==47) from xM c 47 (by decide)];rw [show ((c.toNat:Int)==37)=(c==37) from xM c 37 (by decide)];rw [show ((c.toNat:Int)==61)=(c==61) from xM c 61 (by decide)];rw [show ((c.toNat:Int)==94)=(c==94) from xM c 94 (by decide)];simp only [Tk.isS,Tk.signs,List.any_cons,List.any_nil,Bool.or_false,Bool.or_assoc];have hc:∀ x:UInt8,(x==c)=(c==x):=fun x=>by rw [Bool.eq_iff_iff,beq_iff_eq,beq_iff_eq];exact eq_comm
 simp only [hc]
end Go.Proofs.YthkpanbgkimhoaaGreatDoor
