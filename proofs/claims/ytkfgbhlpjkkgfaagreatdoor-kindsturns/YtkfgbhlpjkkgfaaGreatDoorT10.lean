import Derived.Test.YtkfgbhlpjkkgfaaGreatDoorT09
set_option linter.unusedVariables false
set_option linter.unusedSimpArgs false
set_option maxHeartbeats 64000000
set_option maxRecDepth 100000
namespace Go.Proofs.YtkfgbhlpjkkgfaaGreatDoor
open Go.Shelf Go.RowKit Go.Lib Go.IntWalk Go.Maps
def times (n:Int) (u:Tm):Tm:=(n*u.1,u.2)
theorem mul_small {a b:Int} (ha:small a=true) (hb:small b=true) : -1000000000000<=a*b/\a*b<=1000000000000:=by
 have h1:=zCg.1 ha;have h2:=zCg.1 hb
 constructor
 ·rcases Int.le_total 0 a with p | p<;>rcases Int.le_total 0 b with q | q
  ·have:=Int.mul_nonneg p q;omega
  ·have h3:a*(-b)<=1000000*1000000:=Int.mul_le_mul h1.2 (by omega) (by omega) (by omega)
   rw [Int.mul_neg] at h3;omega
  ·have h3:(-a)*b<=1000000*1000000:=Int.mul_le_mul (by omega) (by omega) q (by omega)
   rw [Int.neg_mul] at h3;omega
  ·have h3:=Int.mul_nonneg (show (0:Int) <= -a by omega) (show (0:Int) <= -b by omega)
   rw [Int.neg_mul_neg] at h3;omega
 ·rcases Int.le_total 0 a with p | p<;>rcases Int.le_total 0 b with q | q
  ·have h3:a*b<=1000000*1000000:=Int.mul_le_mul h1.2 h2.2 q (by omega)
   omega
  ·have h3:=Int.mul_nonneg p (show (0:Int) <= -b by omega)
   rw [Int.mul_neg] at h3;omega
  ·have h3:=Int.mul_nonneg (show (0:Int) <= -a by omega) q
   rw [Int.neg_mul] at h3;omega
  ·have h3:(-a)*(-b)<=1000000*1000000:=Int.mul_le_mul (by omega) (by omega) (by omega) (by omega)
   rw [Int.neg_mul_neg] at h3;omega
theorem kept_more {w wr wA w8:World} {v s0 v8:Value} {o:Obj} (h:(∀ k,k<w.heap.size->some k≠v.ownBlock->wr.heap[k]?=w.heap[k]?)/\(s0.ownBlock=v.ownBlock\/∃ k,s0.ownBlock=some k/\w.heap.size<=k)) (bA:Below wr.heap.size wr wA) (y:w.heap.size<=wr.heap.size) (g:(wA.alloc o).grownBy w8 s0.ownBlock) (m:Moved (wA.alloc o) s0 v8) :
  (∀ k,k<w.heap.size->some k≠v.ownBlock->w8.heap[k]?=w.heap[k]?)/\(v8.ownBlock=v.ownBlock\/∃ k,v8.ownBlock=some k/\w.heap.size<=k):=by
 have yA:=bA.size;have hs:(wA.alloc o).heap.size=wA.heap.size+1:=(by simp);refine ⟨fun k hk cG=>?_,?_⟩
 ·have jU:some k≠s0.ownBlock:=fun e=>by
   rcases h.2 with q | ⟨j,hj,hz⟩
   ·exact cG (e.trans q)
   ·rw [hj] at e;injection e with e;omega
  rw [g.block k (by omega) jU,Below.heap_alloc _ _ _ (by omega),bA.block k (by omega),h.1 k hk cG]
 ·rcases m with q | ⟨j,hj,hz⟩
  ·rw [q];exact h.2
  ·exact .inr ⟨j,hj,by omega⟩
theorem zEW {ok:Nat->Prop} {B:Nat} {w:World} {v u:Value} {l m:List Tm} {n:Int} (ah:OwnL kTerm B w v l) (hm:HTerms ok w u m) (bm:∀ i,ok i->i<B) (hB:B<=w.heap.size) (hn:∀ t ∈ m,small n=true/\small t.1=true) (aP:l.length+m.length<=3000000) :
  Calls Tryz.prog 198 #[v,.int .i64 n,u] w fun e w'=>∃ v',e=.returned v'/\OwnL kTerm B w' v' (l++m.map (times n))/\Below B w w'/\∀ k,k<w.heap.size->some k≠v.ownBlock->w'.heap[k]?=w.heap[k]?:=by
 obtain ⟨ao,cap,rfl,aC,av,ai⟩:=hm.at;unfold maxLen at av;have HM:=zAA hm;clear hm;go_enter Tryz.func198,Tryz.ntmps198;go_wp2_with fail;go_loopg [0,8,11] m.length (fun gh s0 _ OA wr=>∃ (i:Nat),OA=.int .i64 (i:Int)/\i<=m.length/\m.length<=gh+i/\Hid (OwnL kTerm B wr s0 (l++(m.take i).map (times n)))/\Below B w wr/\Hid ((∀ k,k<w.heap.size->some k≠v.ownBlock->wr.heap[k]?=w.heap[k]?)/\(s0.ownBlock=v.ownBlock\/∃ k,s0.ownBlock=some k/\w.heap.size<=k)))
 case atStart=>exact ⟨0,rfl,by omega,by omega,zAA (by simpa using ah),Below.refl _ _,zAA ⟨fun _ _ _=>rfl,.inl rfl⟩⟩
 case round=>
  obtain ⟨i,rfl,Od,JD,HO,bR,tp⟩:=hrel;have yR:=bR.size;by_cases ak:i<m.length
  case neg=>
   have qn:¬(i:Int)<(m.length:Int):=(by omega);have eH:i=m.length:=(by omega);go_wp2;go_ret;have h:=HO.out;rw [eH,List.take_length] at h;exact ⟨_,rfl,h,bR,tp.out.1⟩
  case pos=>
   have lz:(i:Int)<(m.length:Int):=(by omega);obtain ⟨fj,bE,ev,_,_,kI⟩:=(HM.out.keep (w':=wr) yR (fun i hi hl=>bR.block i (bm i hi))).at;injection ev with jw iF jX;subst jw;obtain ⟨b,o,rfl,hb,c0,c1⟩:=kI i ak;have Kv:=hn m[i] (List.getElem_mem ak);have wT:=mul_small Kv.1 Kv.2;have eG:l++(m.take i).map (times n)++[times n m[i]]=l++(m.take (i+1)).map (times n):=by
    rw [List.take_succ_eq_append_getElem ak,List.map_append,List.append_assoc];rfl
   have uv:=zAA eG;have p9:(l++(m.take i).map (times n)).length=l.length+i:=(by rw [List.length_append,List.length_map,List.length_take];omega);generalize Dr:m[i]=t at c0 c1 wT uv;clear Dr eG kI iF jX ai;go_upto_region 4 with fail;obtain ⟨wA,iN⟩:=nmQ (wr.alloc (.cells #[.int .i64 t.1,.string t.2] 83 (0,0)));have bA:=zAk iN;have KA:=zBa iN;rw [<-iN];clear iN c0 c1;have d0:=co KA 0;have d1:=co KA 1;simp at d0 d1;have gp:=HO.out.below bA;have xa:=bR.trans (bA.mono (by omega));have yA:B<=wA.heap.size:=Nat.le_trans hB xa.size;have ja:=fun k hk=>(gp.lt k hk).2;have q1:kTerm.E (fun i=>wA.heap.size<=i) wA [.int .i64 (n*t.1),.string t.2] (times n t):=rfl;have q2:((l++(m.take i).map (times n)).length+1)*kTerm.bytes<=140737488355328:=(by rw [p9];show (l.length+i+1)*24<=_;omega);have q3:(l++(m.take i).map (times n)).length+1<=maxLen:=(by rw [p9];unfold maxLen;omega);have Ly:w.heap.size<=wr.heap.size:=yR;obtain ⟨PC,xG⟩:∃ x,x=l++(m.take i).map (times n):=⟨_,rfl⟩;rw [<-xG] at gp q2 q3 uv;clear xG p9 HO
   go_wp2_with (at_builtin;refine zAV kTerm rfl _ _ 33 83 rfl Tryz.underlying33 B wA.heap.size _ PC (by rfl) gp [.int .i64 (n*t.1),.string t.2] (times n t) q1 (by rfl) ja yA yA q2 q3 ?_;intro v8 w8 cU b8 g8 m8)
   have LA:=zAA (kept_more tp.out bA Ly g8 m8);clear g8 m8;go_wp2_with fail;go_roundg (gk-1)
   case measure=>omega
   case rel=>exact ⟨i+1,by go_num,by omega,by omega,zAA (by rw [<-uv.out];exact cU),xa.trans b8,LA⟩
theorem contains_any {ok:Nat->Prop} {w:World} {v:Value} {l:List Tm} (hl:HTerms ok w v l) :
  Calls Tryz.prog 232 #[v,.func (.func 126) #[] #[]] w fun e w'=>e=.returned (.bool (l.any fun t => !small t.1))/\Below w.heap.size w w':=by
 have iq:=zCv hl;obtain ⟨ao,cap,rfl,aC,av,ai⟩:=hl.at;clear hl ai;go_enter Tryz.func232,Tryz.ntmps232;go_wp2_with fail;refine iq.mono ?_;rintro e w2 ⟨r,rfl,hr,b2⟩;rcases hr with ⟨rfl,h⟩ | ⟨i,ap,rfl,h1,h2⟩
 ·have he:(l.any fun t => !small t.1)=false:=by
   rw [List.any_eq_false];intro t ht;obtain ⟨j,hj,rfl⟩:=List.mem_iff_getElem.1 ht;rw [h j hj];simp
  have HE:=zAA he;clear he h;go_wp2;go_ret;exact ⟨by rw [HE.out];rfl,b2⟩
 ·have he:(l.any fun t => !small t.1)=true:=by
   rw [List.any_eq_true];exact ⟨l[i],List.getElem_mem ap,by rw [h1];rfl⟩
  have HE:=zAA he;have gv:(0:Int)<=(i:Int):=(by omega);clear h1 h2 he;go_wp2;go_ret;exact ⟨by rw [HE.out];rfl,b2⟩
def wt (names:List ByteArray) (L:List (List Tm)) (t:Tm):List Tm :=
 match plc names L.length t.2.data.toList with
 | some q=>(L.getD q []).map (times t.1)
 | none=>[t]
def wbad (names:List ByteArray) (L:List (List Tm)) (t:Tm):Bool :=
 match plc names L.length t.2.data.toList with
 | some q=>(L.getD q []).any fun u => !small u.1 || !small t.1
 | none=>false
def withL (names:List ByteArray) (L:List (List Tm)) (s:List Tm):List Tm:=s.flatMap (wt names L)
def wcode (names:List ByteArray) (L:List (List Tm)) (s:List Tm):Int:=if s.any (wbad names L)=true then 16 else if 1000<(withL names L s).length then 7 else 0
theorem zFC {names:List ByteArray} {L:List (List Tm)} {s:List Tm} {i:Nat} (h:i<s.length):withL names L (s.take (i+1))=withL names L (s.take i)++wt names L s[i]:=by
 unfold withL;rw [List.take_succ_eq_append_getElem h,List.flatMap_append];simp
theorem wany_step {names:List ByteArray} {L:List (List Tm)} {s:List Tm} {i:Nat} (h:i<s.length):(s.take (i+1)).any (wbad names L)=((s.take i).any (wbad names L) || wbad names L s[i]):=by
 rw [List.take_succ_eq_append_getElem h,List.any_append];simp
theorem wbad_some {names:List ByteArray} {L:List (List Tm)} {t:Tm} {q:Nat} (h:plc names L.length t.2.data.toList=some q):wbad names L t=((decide (0<(L.getD q []).length) && !small t.1) || (L.getD q []).any fun u => !small u.1):=by
 unfold wbad;rw [h];simp only;generalize L.getD q []=m
 cases ht:small t.1 with
 | true=>simp
 | false=>
  cases m with
  | nil=>simp
  | cons a m=>simp
theorem made_bools (n:Nat):madeCells (Value.bool false).cells n=((List.replicate n false).map Value.bool).toArray:=by
 apply Array.ext_getElem?
 intro k;have hc:(Value.bool false).cells=#[.bool false]:=rfl;rw [hc];by_cases h:k<n
 ·simp [madeCells,h,Nat.mod_one]
 ·simp [madeCells,h]
def few (n:Nat):Nat:=if 1001<=n then 1001 else n
theorem few_le (a:Nat):few a<=1001:=by unfold few;split<;>omega
theorem few_min (a b:Nat):min (((few a:Nat):Int)+(b:Int)) 1001=((few (a+b):Nat):Int):=by unfold few;split<;>split<;>omega
theorem few_gt (a:Nat):(1000:Int)<((few a:Nat):Int)↔1000<a:=by unfold few;split<;>omega
theorem info4b:(Tryz.prog.info? 4).map (fun i=>(i.zero,i.size,i.bytes))=some (some (.bool false),1,1):=by kernel_rfl
theorem zFD {ok cC ok':Nat->Prop} {w:World} {v vl f:Value} {s:List Tm} {names:List ByteArray} {L:List (List Tm)} (hs:HTerms ok w v s) (hL:HSizes cC w vl L) (hf:FnP ok' w f names L.length) (bo:∀ t ∈ s,t.2.size<=maxLen) (Ln:L.length<=1000000) (Hs:∀ m ∈ L,m.length<=1000000) :
  Calls Tryz.prog 197 #[v,vl,f] w fun e w'=>e=.returned (.int .i64 (wcode names L s))/\Below w.heap.size w w':=by
 obtain ⟨ao,cap,rfl,aC,av,ai⟩:=hs.at;obtain ⟨aL,cL,rfl,ry,mx,jP⟩:=hL.at;unfold maxLen at av mx;obtain ⟨i0,hi,db,bP,bY⟩:=info_parts info4b;obtain ⟨M,hM⟩:=nmQ (madeCells (Value.bool false).cells (L.length*i0.size));have mV:∀ W:World,(Instr.makeSlice 240 (.int .i64 (L.length:Int)) (.int .i64 (L.length:Int))).run Tryz.prog W=.ok (.slice (some ⟨W.heap.size,0,none⟩) L.length L.length) (W.alloc (.cells M 4)):=fun W=>by
  have h:=run_make (P:=Tryz.prog) W 240 4 i0 (.bool false) Tryz.underlying240 hi db .i64 .i64 (L.length:Int) (L.length:Int) (by omega) (by omega) (by rw [bY];omega) (by omega)
  simpa [hM] using h
 have mU:=zAA hM;clear hM;have HS:=zAA hs;have HL:=zAA hL;have HF:=zAA hf;clear hs hL hf ai jP;go_enter Tryz.func197,Tryz.ntmps197;go_wp2_with fail
 go_region
 obtain ⟨w1,ew⟩:=nmQ ((w.alloc (.cells M 4 (0,0))).drew);have b1:Below w.heap.size w w1:=(by rw [ew];exact ((Below.refl _ _).alloc nR _).drew);have K1:w1.heap[w.heap.size]?=some (.cells ((List.replicate L.length false).map Value.bool).toArray 4 (0,0)):=by
  rw [ew,<-made_bools];have:=mU.out;rw [bP,Nat.mul_one] at this;rw [<-this];exact zAC w (.cells M 4 (0,0))
 rw [<-ew];clear ew mU mV hi db bP bY;go_wp2_with fail;go_loopg [7,10,11,12,13,19] s.length (fun gh s7 _ _ _ _ My wr=>∃ (i:Nat) (bs:List Bool),My=.int .i64 (i:Int)/\s7=.int .i64 ((few (withL names L (s.take i)).length:Nat):Int)/\i<=s.length/\s.length<=gh+i/\Hid ((s.take i).any (wbad names L)=false)/\bs.length=L.length/\Hid (∀ q,bs[q]?=some true->((L.getD q []).any fun u => !small u.1)=false)/\wr.heap[w.heap.size]?=some (.cells (bs.map Value.bool).toArray 4 (0,0))/\Below w.heap.size w wr)
 case atStart=>exact ⟨0,List.replicate L.length false,rfl,by simp [withL,few],by omega,by omega,zAA (by simp),by simp,zAA (fun q hq=>by
  rw [List.getElem?_replicate] at hq
  split at hq<;>simp at hq),K1,b1⟩
 case round=>
  obtain ⟨i,bs,rfl,rfl,MN,JD,HA,iA,HC,K,bR⟩:=hrel;have yR:=bR.size;by_cases ak:i<s.length
  case neg=>
   have qn:¬(i:Int)<(s.length:Int):=(by omega);have eH:i=s.length:=(by omega);have oA:wcode names L s=if 1000<(withL names L s).length then 7 else 0:=by
    unfold wcode;have:=HA.out;rw [eH,List.take_length] at this;rw [this];rfl
   rw [eH,List.take_length];have HW:=zAA oA;clear oA;generalize (withL names L s).length=n at HW ⊢;have IE:=few_gt n;have pH:=few_le n;by_cases hn:1000<n
   ·have h1:(1000:Int)<((few n:Nat):Int):=IE.2 hn
    go_wp2;go_ret;exact ⟨by rw [HW.out,if_pos hn];rfl,bR⟩
   ·have h1:¬(1000:Int)<((few n:Nat):Int):=fun h=>hn (IE.1 h)
    go_wp2;go_ret;exact ⟨by rw [HW.out,if_neg hn];rfl,bR⟩
  case pos=>
   have lz:(i:Int)<(s.length:Int):=(by omega);obtain ⟨fj,bE,ev,_,_,kI⟩:=(HS.out.keep (w':=wr) yR (fun i hi hl=>bR.block i hl)).at;injection ev with jw iF jX;subst jw;obtain ⟨b,o,rfl,hb,c0,c1⟩:=kI i ak;clear kI iF jX;have pX:=bo s[i] (List.getElem_mem ak);have Cl:=zAA (zFC (names:=names) (L:=L) ak);have Eu:=zAA (wany_step (names:=names) (L:=L) ak);have Cq:=zAA (fun h:wbad names L s[i]=true=>(show wcode names L s=16 by
    unfold wcode;rw [if_pos (List.any_eq_true.2 ⟨s[i],List.getElem_mem ak,h⟩)]))
   generalize s[i]=t at c0 c1 pX Cl Eu Cq;go_upto_region 5 with fail;obtain ⟨wA,iN⟩:=nmQ (wr.alloc (.cells #[.int .i64 t.1,.string t.2] 83 (0,0)));have bA:=zAk iN;have KA:=zBa iN;rw [<-iN];clear iN c0 c1;have d0:=co KA 0;have d1:=co KA 1;simp at d0 d1;have nB:=bR.trans (bA.mono yR);have KK:=(bA.block _ (zAB K)).trans K;have yk:=zAB K;obtain ⟨Bf,Mf,nf,Df,rfl,_,_,BM,kO,AY⟩:=(HF.out.below nB).out;have ag:=place36 BM kO AY pX;clear BM kO AY;have pH:=few_le (withL names L (s.take i)).length;have Dk:=zAA (fun k=>few_min (withL names L (s.take i)).length k);obtain ⟨N,hN⟩:=nmQ ((withL names L (s.take i)).length);rw [<-hN] at pH Dk ⊢;have qO:=zAA hN;clear hN bA
   cases hp:plc names L.length t.2.data.toList with
   | none=>
    rw [hp] at ag;have iE:wbad names L t=false:=(by unfold wbad;rw [hp]);have bS:wt names L t=[t]:=(by unfold wt;rw [hp]);have C8:=zAA (Dk.out 1);have qZ:=zAA (show (s.take (i+1)).any (wbad names L)=false by rw [Eu.out,HA.out,iE];rfl);have Co:=zAA (show (withL names L (s.take (i+1))).length=N+1 by rw [Cl.out,bS,List.length_append,qO.out];rfl);simp only [Option.getD_none,Option.isSome_none] at ag;clear hp iE bS
    go_wp2_with (go_at_call 231;refine ag.mono ?_;rintro e w' ⟨rfl,rfl⟩)
    go_roundg (gk-1)
    case measure=>omega
    case rel=>exact ⟨i+1,bs,by go_num,by rw [Co.out];exact congrArg (Value.int .i64) C8.out,by omega,by omega,qZ,iA,HC,KK,nB⟩
   | some q=>
    have hq:=(plc_lt hp).1;have xC:=zAA (wbad_some (L:=L) hp);have bS:wt names L t=(L.getD q []).map (times t.1):=(by unfold wt;rw [hp]);have jv:L.getD q []=L[q]:=(by simp [hq]);rw [hp] at ag;simp only [Option.getD_some,Option.isSome_some] at ag;obtain ⟨Oy,Nu,ev,_,_,jP⟩:=(HL.out.keep (w':=wA) nB.size (fun i hi hl=>nB.block i hl)).at;injection ev with jw iF jX;subst jw;obtain ⟨bL,oL,au,nu,cu,rfl,Fu,py,qJ⟩:=jP q hq;obtain ⟨MZ,Ns,Gt,qI,OR,_⟩:=qJ.at;injection Gt with D6 ES Es;subst ES;have Ay:=Hs L[q] (List.getElem_mem hq);have Co:=zAA (show (withL names L (s.take (i+1))).length=N+(L[q]).length by rw [Cl.out,bS,List.length_append,List.length_map,qO.out,jv]);have DT:=zAA (fun h:bs[q]?=some true=>(show ((L[q]).any fun u => !small u.1)=false by rw [<-jv];exact HC.out q h));rw [jv] at xC;have C8:=zAA (Dk.out (L[q]).length);have Av:Hid (∀ q',q'≠q->bs[q']?=some true->((L.getD q' []).any fun u => !small u.1)=false):=zAA (fun q' _ h=>HC.out q' h);have xV:=zAA jv;generalize BE:L[q]=m at py qJ Ay Co DT xC C8 xV;clear BE jP hp bS jv iF jX D6 Es Dk Cl;have Nj:(q:Int)<(L.length:Int):=(by omega);obtain ⟨cb,uZ⟩:∃ cb,bs[q]?=some cb:=⟨bs[q]'(by omega),List.getElem?_eq_getElem (by omega)⟩;have kq:=co KK q;have JT:wA.cell? ⟨w.heap.size,q,none⟩=some (.bool cb):=(by rw [kq];simp [uZ]);have fk:=fun o=>fo KK o;clear kq;go_upto_region 9 with (go_at_call 231;refine ag.mono ?_;rintro e w' ⟨rfl,pB⟩;rw [pB];clear pB);go_cut [41] (fun v wd=>v=.bool (decide (0<m.length) && !small t.1)/\Below wA.heap.size wA wd)
    case first=>
     by_cases hm:0<m.length
     ·have Mm:(0:Int)<(m.length:Int):=by omega
      have Ez:=zFQ t wA;have he:(decide (0<m.length) && !small t.1) = !small t.1:=(by simp [hm]);have HE:=zAA he;clear he;go_wp2_with fail;refine Ez.mono ?_;rintro e w5 ⟨rfl,b5⟩;go_wp2_with fail;go_meet
      case rel=>exact ⟨by rw [HE.out],b5⟩
     ·have Mm:¬(0:Int)<(m.length:Int):=by omega
      have he:(decide (0<m.length) && !small t.1)=false:=(by simp [hm]);have HE:=zAA he;clear he;go_wp2_with fail;go_meet
      case rel=>exact ⟨by rw [HE.out],Below.refl _ _⟩
    case rest=>
     obtain ⟨rfl,bB⟩:=hcut;obtain ⟨wB,Dp⟩:=nmQ (wc);subst Dp;have KB:=(bB.block _ (zAB KK)).trans KK;have MJ:=(bB.block _ (zAB KA)).trans KA;have DN:=nB.trans (bB.mono nB.size);have IF:=(bB.cell (p:=⟨w.heap.size,q,none⟩) (zAB KK)).trans JT;have OB:=(bB.cell (p:=⟨bL,oL+q,none⟩) Fu).trans py;have Je:=qJ.keep (w':=wB) bB.size (fun i hi hl=>bB.block i hl);have QP:=Nat.lt_of_lt_of_le Fu bB.size;clear qJ JT py KK KA fk d0 d1 ag;have Mr:=fun o=>fo KB o
     cases hbad:(decide (0<m.length) && !small t.1) with
     | true=>
      have tP:=zAA (Cq.out (by rw [xC.out,hbad];rfl));go_wp2;go_ret;exact ⟨by rw [tP.out];rfl,DN⟩
     | false=>
      go_upto_region 11 with fail;go_cut [53] (fun v wd=>v=.bool (!cb&&m.any fun u => !small u.1)/\Below wB.heap.size wB wd)
      case first=>
       have dM:=contains_any Je
       cases cb with
       | true=>
        clear dM;go_wp2_with fail;go_meet
        case rel=>exact ⟨rfl,Below.refl _ _⟩
       | false=>
        go_wp2_with fail;refine dM.mono ?_;rintro e w5 ⟨rfl,b5⟩;go_wp2_with fail;go_meet
        case rel=>exact ⟨by simp,b5⟩
      case rest=>
       obtain ⟨rfl,bC⟩:=hcut;have KC:=(bC.block _ (zAB KB)).trans KB;have KQ:=DN.trans (bC.mono DN.size);have QY:=(bC.cell (p:=⟨w.heap.size,q,none⟩) (zAB KB)).trans IF;clear IF KB MJ Mr Je OB;have QC:=fun o=>fo KC o
       cases ui:(!cb&&m.any fun u => !small u.1) with
       | true=>
        have mR:(m.any fun u => !small u.1)=true:=by
         rw [Bool.and_eq_true] at ui;exact ui.2
        have tP:=zAA (Cq.out (by rw [xC.out,mR,Bool.or_true]));clear mR;go_wp2;go_ret;exact ⟨by rw [tP.out];rfl,KQ⟩
       | false=>
        have mR:(m.any fun u => !small u.1)=false:=by
         cases cb with
         | true=>exact DT.out uZ
         | false=>simpa using ui
        have qZ:=zAA (show (s.take (i+1)).any (wbad names L)=false by rw [Eu.out,HA.out,xC.out,hbad,mR];rfl);have L0:Hid (∀ q',(bs.set q true)[q']?=some true->((L.getD q' []).any fun u => !small u.1)=false):=zAA (fun q' h=>by
         by_cases e:q'=q
         ·subst e;rw [xV.out];exact mR
         ·rw [List.getElem?_set_ne (fun h=>e h.symm)] at h
          exact Av.out q' e h)
        have KD:=zAD KC q (.bool true);have eD:(bs.map Value.bool).toArray.setIfInBounds q (.bool true)=((bs.set q true).map Value.bool).toArray:=by
         rw [sT,List.map_set]
        rw [eD] at KD;have B8:=zAA KD;clear KD eD mR ui hbad uZ KC Cq xC DT;go_wp2_with fail;go_roundg (gk-1)
        case measure=>omega
        case rel=>exact ⟨i+1,bs.set q true,by go_num,by rw [Co.out];exact congrArg (Value.int .i64) C8.out,by omega,by omega,qZ,by simp [iA],L0,B8.out,KQ.setCell (p:=⟨w.heap.size,q,none⟩) nR _⟩
end Go.Proofs.YtkfgbhlpjkkgfaaGreatDoor
namespace Go.Proofs.YtkfgbhlpjkkgfaaGreatDoor
open Go.Shelf Go.RowKit Go.Lib Go.IntWalk Go.Maps
def WithP (B:Nat) (w:World) (names:List ByteArray) (L:List (List Tm)) (s:List Tm) (u:Value) (c a:Int):Prop :=
 c=wcode names L s/\((c≠0/\u=.slice none 0 0/\a = -1)\/(c=0/\a=0/\OwnL kTerm B w u (withL names L s)))
theorem wcode_zero {names:List ByteArray} {L:List (List Tm)} {s:List Tm} (h:wcode names L s=0):s.any (wbad names L)=false/\(withL names L s).length<=1000:=by
 unfold wcode at h
 split at h
 ·omega
 ·rename_i h1
  split at h
  ·omega
  ·exact ⟨by simpa using h1,by omega⟩
theorem zFE {names:List ByteArray} {L:List (List Tm)} {s:List Tm} (i:Nat):(withL names L (s.take i)).length<=(withL names L s).length:=by
 have h:withL names L s=withL names L (s.take i)++withL names L (s.drop i):=by
  unfold withL;rw [<-List.flatMap_append,List.take_append_drop]
 rw [h,List.length_append];omega
theorem with_any {ok ky cC:Nat->Prop} {w:World} {v vn vl:Value} {s:List Tm} {names:List ByteArray} {L:List (List Tm)} (hs:HTerms ok w v s) (hn:HNames ky w vn names) (hL:HSizes cC w vl L) (bo:∀ t ∈ s,t.2.size<=maxLen) (NH:∀ x ∈ names,x.size<=maxLen) (Ln:L.length<=1000000) (Hs:∀ m ∈ L,m.length<=1000000) :
  Calls Tryz.prog 165 #[v,vn,vl] w fun e w'=>∃ u c a,e=.returned (.tuple #[u,.agg #[.int .i64 c,.int .i64 a]])/\WithP w.heap.size w' names L s u c a/\Below w.heap.size w w':=by
 obtain ⟨w1,ew⟩:=nmQ (w.alloc (.cells #[.int .i64 0,.int .i64 0] 29 (0,0)));have b1:=zAk ew;have K1:=zBa ew;have AC:=placesOf_any (cnt:=L.length) (hn.keep (w':=w1) b1.size (fun i _ hl=>b1.block i hl)) NH (by omega);obtain ⟨ao,cap,rfl,aC,av,ai⟩:=hs.at;obtain ⟨aL,cL,rfl,ry,mx,jP⟩:=hL.at;obtain ⟨an,cn,rfl,mw,rS,_⟩:=hn.at;unfold maxLen at av mx;have HS:=zAA hs;have HL:=zAA hL;clear hs hL hn ai jP;go_enter Tryz.func165,Tryz.ntmps165;go_upto_region 1 with fail;rw [<-ew];clear ew;go_wp2_with fail;refine AC.mono ?_;rintro e w2 ⟨f,rfl,hf,b2⟩;clear AC;have B2:=b1.trans (b2.mono b1.size);have K2:=(b2.block _ (zAB K1)).trans K1;have cT:=zFD (HS.out.keep (w':=w2) B2.size (fun i _ hl=>B2.block i hl)) (HL.out.keep (w':=w2) B2.size (fun i _ hl=>B2.block i hl)) hf bo Ln Hs;have HF:=zAA hf;clear hf b1 K1 b2;go_wp2_with fail;refine cT.mono ?_;rintro e w3 ⟨rfl,b3⟩;clear cT;have B3:=B2.trans (b3.mono B2.size);have K3:=(b3.block _ (zAB K2)).trans K2;have N2:=zAA (HF.out.below b3);have qV:=zAA (HS.out.keep (w':=w3) B3.size (fun i _ hl=>B3.block i hl));have tN:=zAA (HL.out.keep (w':=w3) B3.size (fun i _ hl=>B3.block i hl));have y3:=zAB K3;clear B2 K2 HF b3;obtain ⟨c,hc⟩:=nmQ (wcode names L s);rw [<-hc];have wX:=zAA hc;clear hc;by_cases eQ:c=0
 ·subst eQ
  have hz:=wcode_zero wX.out.symm;have LM:=zAA hz.1;have LF:=zAA hz.2;clear hz;go_wp2_with fail;go_loopg [10,12,13,14,29] s.length (fun gh NO _ _ _ O9 wr=>∃ (i:Nat),O9=.int .i64 (i:Int)/\i<=s.length/\s.length<=gh+i/\Hid (OwnL kTerm w3.heap.size wr NO (withL names L (s.take i)))/\Below w3.heap.size w3 wr)
  case atStart=>exact ⟨0,rfl,by omega,by omega,zAA (by simpa [withL] using OwnL.nil),Below.refl _ _⟩
  case round=>
   obtain ⟨i,rfl,MN,JD,HO,bR⟩:=hrel;have yR:=bR.size;have KR:=(bR.block _ y3).trans K3;have BR:=B3.trans (bR.mono B3.size);by_cases ak:i<s.length
   case neg=>
    have qn:¬(i:Int)<(s.length:Int):=(by omega);have eH:i=s.length:=(by omega);have k0:=co KR 0;have k1:=co KR 1;have fk:=fun o=>fo KR o;simp at k0 k1;have ho:=HO.out;rw [eH,List.take_length] at ho;have DX:=zAA ho;clear ho;go_wp2;have gK:=((DX.out.set (p:=⟨w.heap.size,0,none⟩) y3 (.int .i64 0)).set (p:=⟨w.heap.size,1,none⟩) y3 (.int .i64 0)).lower (B:=w.heap.size) (by omega);exact bodyPost_ret (v:=.tuple #[_,.agg #[.int .i64 0,.int .i64 0]]) (by simp [results,Tryz.results165,go_sem,k0,k1]) rfl ⟨_,_,_,rfl,⟨wX.out,.inr ⟨rfl,rfl,gK⟩⟩,(BR.setCell (p:=⟨w.heap.size,0,none⟩) nR _).setCell (p:=⟨w.heap.size,1,none⟩) nR _⟩
   case pos=>
    have lz:(i:Int)<(s.length:Int):=(by omega);obtain ⟨fj,bE,ev,_,_,kI⟩:=(qV.out.keep (w':=wr) yR (fun i hi hl=>bR.block i hl)).at;injection ev with jw iF jX;subst jw;obtain ⟨b,o,rfl,hb,c0,c1⟩:=kI i ak;clear kI iF jX;have pX:=bo s[i] (List.getElem_mem ak);have kU:=zFC (names:=names) (L:=L) ak;have wM:wbad names L s[i]=false:=by
     have:=LM.out;rw [List.any_eq_false] at this;have h2:=this s[i] (List.getElem_mem ak)
     simpa using h2
    have AC:=zFE (names:=names) (L:=L) (s:=s) (i+1);rw [kU,List.length_append] at AC;have kR:(withL names L (s.take i)).length+(wt names L s[i]).length<=1000:=(by have:=LF.out;omega);generalize s[i]=t at c0 c1 pX kU wM kR;have vA:=zAA kU;clear kU AC;go_upto_region 9 with fail;obtain ⟨wA,iN⟩:=nmQ (wr.alloc (.cells #[.int .i64 t.1,.string t.2] 83 (0,0)));have bA:=zAk iN;have KA:=zBa iN;rw [<-iN];clear iN c0 c1;have d0:=co KA 0;have d1:=co KA 1;simp at d0 d1;have nB:=bR.trans (bA.mono yR);obtain ⟨Bf,Mf,nf,Df,rfl,_,_,BM,kO,AY⟩:=(N2.out.below nB).out;have ag:=place36 BM kO AY pX;clear BM kO AY;have gp:=HO.out.below bA;have xK:=fun k hk=>(HO.out.lt k hk).2;have qM:=nB.size;obtain ⟨ax,cx,OD,_,_⟩:=HO.out.form;subst OD;obtain ⟨X,hX⟩:=nmQ (withL names L (s.take i));rw [<-hX] at gp kR vA xK ⊢;clear hX HO
    cases hp:plc names L.length t.2.data.toList with
    | none=>
     have bS:wt names L t=[t]:=(by unfold wt;rw [hp]);rw [bS] at kR vA;rw [hp] at ag;simp only [Option.getD_none,Option.isSome_none,List.length_singleton] at ag kR;have ja:=fun k hk=>(gp.lt k hk).2;have q1:kTerm.E (fun i=>wA.heap.size<=i) wA [.int .i64 t.1,.string t.2] t:=rfl;have q2:(X.length+1)*kTerm.bytes<=140737488355328:=(by show (X.length+1)*24<=_;omega);have q3:X.length+1<=maxLen:=(by unfold maxLen;omega);clear hp bS wM KA;go_upto_region 10 with (go_at_call 231;refine ag.mono ?_;rintro e w' ⟨rfl,pB⟩;rw [pB];clear pB)
     go_wp2_with (at_builtin;refine zAV kTerm rfl _ _ 33 83 rfl Tryz.underlying33 w3.heap.size wA.heap.size _ X (by rfl) gp [.int .i64 t.1,.string t.2] t q1 (by rfl) ja qM qM q2 q3 ?_;intro v8 w8 cU b8 _ _)
     go_wp2_with fail;go_roundg (gk-1)
     case measure=>omega
     case rel=>exact ⟨i+1,by go_num,by omega,by omega,zAA (by rw [vA.out];exact cU),nB.trans b8⟩
    | some q=>
     have hq:=(plc_lt hp).1;have FO:=wbad_some (L:=L) hp;have bS:wt names L t=(L.getD q []).map (times t.1):=(by unfold wt;rw [hp]);have jv:L.getD q []=L[q]:=(by simp [hq]);rw [bS] at kR vA;rw [jv] at kR vA FO;rw [hp] at ag;simp only [Option.getD_some,Option.isSome_some,List.length_map] at ag kR;obtain ⟨Oy,Nu,ev,_,_,jP⟩:=((tN.out.wide (ok':=fun i=>i<w3.heap.size) (fun i _ hl=>hl)).keep (w':=wA) nB.size (fun i hi hl=>nB.block i hl)).at;injection ev with jw iF jX;subst jw;obtain ⟨bL,oL,au,nu,cu,rfl,Fu,py,qJ⟩:=jP q hq;obtain ⟨MZ,Ns,Gt,qI,OR,_⟩:=qJ.at;injection Gt with D6 ES Es;subst ES;have FV:bL<w3.heap.size:=by
      obtain ⟨Ot,Mc,MO,_,_,yY⟩:=tN.out.at;injection MO with Ni _ _;obtain ⟨bx,ox,_,_,_,e8,ik,_⟩:=yY q hq;rw [<-Ni] at e8;injection e8 with e8;injection e8 with e8 _ _;rw [e8];exact ik
     have jO:∀ u ∈ L[q],small t.1=true/\small u.1=true:=by
      rw [FO,Bool.or_eq_false_iff,List.any_eq_false] at wM;intro u hu;have h1:0<(L[q]).length:=List.length_pos_of_mem hu;exact ⟨by simpa [h1] using wM.1,by simpa using wM.2 u hu⟩
     generalize BE:L[q]=m at py qJ kR vA jO;clear BE jP hp bS jv iF jX D6 Es FO wM;have Nj:(q:Int)<(L.length:Int):=(by omega);have sR:wr.heap.size<wA.drew.heap.size:=zAB KA;have pA:some wr.heap.size≠(Value.slice ax X.length cx).ownBlock:=fun e=>by
      have:=xK wr.heap.size e.symm;omega
     have xI:bL<w3.heap.size:=FV;have Fl:wA.drew.cell? ⟨wr.heap.size,0,none⟩=some (.int .i64 t.1):=d0;have G7:wA.drew.cell? ⟨bL,oL+q,none⟩=some (.slice au m.length cu):=py;have tU:=zEW (B:=w3.heap.size) (w:=wA.drew) (n:=t.1) (gp.below ((Below.refl _ wA).drew)) (qJ.keep (w':=wA.drew) nR (fun _ _ _=>rfl)) (fun i hi=>hi) qM jO (by omega);clear gp qJ jO;go_upto_region 11 with (go_at_call 231;refine ag.mono ?_;rintro e w' ⟨rfl,pB⟩;rw [pB];clear pB);refine zAE (fun w'=>w'.cell? ⟨wr.heap.size,0,none⟩=some (.int .i64 t.1)/\w'.cell? ⟨bL,oL+q,none⟩=some (.slice au m.length cu)) (fun _=>false) (by kernel_rfl) ?_;have hH:=And.intro Fl G7;refine' tjQ 0 hH ?hyv ?o1
     case hyv=>
      intro wz ae;obtain ⟨z0,z1⟩:=ae;go_simp
      try rfl
     try simp only [Act.put,sT,sZ,sS]
     refine' tjQ 1 hH ?hyv ?o2
     case hyv=>
      intro wz ae;obtain ⟨z0,z1⟩:=ae;go_simp
      try rfl
     try simp only [Act.put,sT,sZ,sS]
     refine' tjQ 2 hH ?hyv ?o3
     case hyv=>
      intro wz ae;obtain ⟨z0,z1⟩:=ae;go_simp
      try rfl
     try simp only [Act.put,sT,sZ,sS]
     refine' tjQ 3 hH ?hyv ?o4
     case hyv=>
      intro wz ae;obtain ⟨z0,z1⟩:=ae;go_simp
      try rfl
     try simp only [Act.put,sT,sZ,sS]
     refine' tjQ 4 hH ?hyv ?o5
     case hyv=>
      intro wz ae;obtain ⟨z0,z1⟩:=ae;go_simp
      try rfl
     try simp only [Act.put,sT,sZ,sS]
     refine' tjQ 5 hH ?hyv ?o6
     case hyv=>
      intro wz ae;obtain ⟨z0,z1⟩:=ae;go_simp
      try rfl
     try simp only [Act.put,sT,sZ,sS]
     refine' tjQ 6 hH ?hyv ?o7
     case hyv=>
      intro wz ae;obtain ⟨z0,z1⟩:=ae;go_simp
      try rfl
     try simp only [Act.put,sT,sZ,sS]
     refine tnQ 7 (fun K hK=>?_);go_simp;refine tU.mono ?_;rintro e w5 ⟨v5,rfl,gK,b5,Ig⟩;refine hK.out _ _ (fun _=>⟨?h5a,?h5b⟩) ?_
     case h5a=>exact (World.cell?_of_block (w:=wA.drew) (Ig _ sR pA)).trans Fl
     case h5b=>exact (World.cell?_of_block (w:=wA.drew) (b5.block _ xI)).trans G7
     clear hK K
     try simp only [Act.put,sT,sZ,sS]
     have MR:=And.intro ((World.cell?_of_block (w:=wA.drew) (a:=⟨wr.heap.size,0,none⟩) (Ig _ sR pA)).trans Fl) ((World.cell?_of_block (w:=wA.drew) (a:=⟨bL,oL+q,none⟩) (b5.block _ xI)).trans G7);refine' tjR 8 MR ?o8
     refine zAF (by kernel_rfl) ?_ _;go_wp2_with fail;go_roundg (gk-1)
     case measure=>omega
     case rel=>exact ⟨i+1,by go_num,by omega,by omega,zAA (by rw [vA.out];exact gK),nB.trans ⟨b5.os,b5.tape,b5.output,b5.size,b5.block⟩⟩
 ·have cG:(c != 0)=true:=by simpa using eQ
  have k0:=co K3 0;have k1:=co K3 1;have fk:=fun o=>fo K3 o;simp at k0 k1;go_wp2;exact bodyPost_ret (v:=.tuple #[.slice none 0 0,.agg #[.int .i64 c,.int .i64 (-1)]]) (by simp [results,Tryz.results165,go_sem,k0,k1]) rfl ⟨_,_,_,rfl,⟨wX.out,.inl ⟨eQ,rfl,rfl⟩⟩,(B3.setCell (p:=⟨w.heap.size,0,none⟩) nR _).setCell (p:=⟨w.heap.size,1,none⟩) nR _⟩
end Go.Proofs.YtkfgbhlpjkkgfaaGreatDoor
