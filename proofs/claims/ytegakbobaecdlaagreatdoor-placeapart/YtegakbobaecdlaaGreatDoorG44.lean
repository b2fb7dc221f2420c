import Derived.Test.YtegakbobaecdlaaGreatDoorG42
set_option linter.unusedVariables false
set_option linter.unusedSimpArgs false
set_option maxHeartbeats 64000000
set_option maxRecDepth 100000
namespace Go.Proofs.YtegakbobaecdlaaGreatDoor
open Go.Shelf Go.RowKit Go.Lib Go.IntWalk
def ieq (x y:Int):Bool:=x==y
theorem sameInts_any {ok ok':Nat->Prop} {w:World} {v u:Value} {l r:List Int} (hl:HInts ok w v l) (hr:HInts ok' w u r) :
  Calls Tryz.prog 25 #[v,u] w fun e w'=>e=.returned (.bool (eqL ieq l r))/\∃ m,w'=w.drewN m:=by
 obtain ⟨ao,cap,rfl,hc1,hc2,hat⟩:=hl.at;obtain ⟨ao',cap',rfl,hd1,hd2,hat'⟩:=hr.at;unfold maxLen at hc2 hd2;obtain ⟨R,hR⟩:=nmQ (eqL ieq l r);rw [<-hR];have HR:=zG hR;clear hR hl hr;obtain ⟨n,hn⟩:=nmQ (l.length);obtain ⟨m,hm⟩:=nmQ (r.length);rw [<-hn] at hc1 ⊢;rw [<-hm] at hd1 ⊢;have HN:=zG hn;have HM:=zG hm;by_cases hlen:n=m
 ·subst hlen
  have hq:((n:Int) != (n:Int))=false:=(by simp);clear hn hm;go_enter Tryz.func25,Tryz.ntmps25;go_wp2;go_loopg [5] n (fun k v wr=>∃ i d,i<=n/\k=n-i/\v=.int .i64 (i:Nat)/\Hid (∀ j (h:j<l.length) (h':j<r.length),j<i->ieq l[j] r[j]=true)/\wr=w.drewN d)
  case atStart=>exact ⟨0,0,Nat.zero_le _,rfl,rfl,fun j _ _ h=>absurd h (Nat.not_lt_zero _),rfl⟩
  case round=>
   obtain ⟨i,d,hi,rfl,rfl,H,hW⟩:=hrel;have HW:=zG hW;clear hW;by_cases hlt:i<n
   ·have hil:i<l.length:=by have:=HN.out;omega
    have hir:i<r.length:=(by have:=HM.out;omega);obtain ⟨b,o,rfl,hb,hc⟩:=hat i hil;obtain ⟨b',o',rfl,hb',hc'⟩:=hat' i hir;have e1:wr.cell? ⟨b,o+i,none⟩=some (.int .i64 l[i]):=(by rw [HW.out];exact hc);have e2:wr.cell? ⟨b',o'+i,none⟩=some (.int .i64 r[i]):=(by rw [HW.out];exact hc');obtain ⟨x,hx⟩:=nmQ (l[i]);obtain ⟨y,hy⟩:=nmQ (r[i]);rw [<-hx] at e1;rw [<-hy] at e2;have HX:=zG hx;have HY:=zG hy;clear hc hc' hx hy;clear hat hat'
    cases h0:(x==y)
    ·have hbad:ieq l[i] r[i]=false:=by rw [<-HX.out,<-HY.out];exact h0
     have h1:(x != y)=true:=(by simp [bne,h0]);have HBAD:=zG hbad;clear hbad;go_wp2_with fail;go_quiet (fail);go_wp2;go_ret;exact ⟨jO (by rw [HR.out,eqL_bad i hil hir HBAD.out]),_,by rw [HW.out,World.drewN_drewN]⟩
    ·have hgood:ieq l[i] r[i]=true:=by rw [<-HX.out,<-HY.out];exact h0
     have h1:(x != y)=false:=(by simp [bne,h0]);have HGOOD:=zG hgood;clear hgood;go_wp2_with fail;go_quiet (fail);go_wp2;go_roundg (n-(i+1))
     case measure=>omega
     case rel=>exact ⟨i+1,_,by omega,rfl,by go_num,zG (fun j h h' hj=>by
      rcases Nat.lt_or_eq_of_le (Nat.le_of_lt_succ hj) with h2 | h2
      ·exact H.out j h h' h2
      ·subst h2;exact HGOOD.out),by rw [HW.out,World.drewN_drewN]⟩
   ·have hie:i=n:=by omega
    have hge:¬(i:Int)<(n:Int):=(by omega);go_wp2;go_ret;refine ⟨jO ?_,d,HW.out⟩;rw [HR.out];exact (eqL_all (by rw [<-HN.out,<-HM.out]) (fun j h h'=>H.out j h h' (by have:=HN.out;omega))).symm
 ·have hq:((n:Int) != (m:Int))=true:=by simp;omega
  clear hn hm;go_enter Tryz.func25,Tryz.ntmps25;go_wp2;go_ret;exact ⟨jO (by rw [HR.out,eqL_len (by rw [<-HN.out,<-HM.out];exact hlen)]),0,rfl⟩
end Go.Proofs.YtegakbobaecdlaaGreatDoor
namespace Go.Proofs.YtegakbobaecdlaaGreatDoor
open Go.Shelf Go.RowKit Go.Lib Go.IntWalk
def ins (n:Int):List Int->List Int
 | []=>[n]
 | x :: t=>if n<=x then (if n<x then n :: x :: t else x :: t) else x :: ins n t
def insD (n:Int) (p:List Int):Bool:=p.any (fun x=>decide (n<=x))
def insP (n:Int) (p:List Int):List Int:=if insD n p=true then ins n p else p
theorem ins_none (n:Int):∀ (p:List Int),insD n p=false->ins n p=p++[n]
 | [],_=>rfl
 | x :: t,h=>by
  simp [insD] at h;have:=ins_none n t (by simpa [insD] using h.2);rw [ins,if_neg (by omega),this];rfl
theorem ins_some (n x:Int):∀ (p:List Int),insD n p=true->ins n (p++[x])=ins n p++[x]
 | [],h=>by simp [insD] at h
 | y :: t,h=>by
  by_cases hy:n<=y
  ·by_cases hz:n<y
   ·simp [ins,hy,hz]
   ·simp [ins,hy,hz]
  ·have h2:insD n t=true:=by
    simp only [insD,List.any_cons,Bool.or_eq_true,decide_eq_true_eq] at h;rcases h with h | h
    ·omega
    ·simpa [insD] using h
   simp [ins,hy,ins_some n x t h2]
theorem ins_at (n x:Int) (hx:n<=x):∀ (p:List Int),insD n p=false->ins n (p++[x])=p++(if n<x then [n,x] else [x])
 | [],_=>by simp [ins,hx]
 | y :: t,h=>by
  simp [insD] at h;have:=ins_at n x hx t (by simpa [insD] using h.2);rw [List.cons_append,ins,if_neg (by omega),this];rfl
theorem xK (n x:Int) (p:List Int):insD n (p++[x])=(insD n p || decide (n<=x)):=by simp [insD]
theorem insP_true {n x:Int} {p:List Int} (h:insD n p=true):insP n (p++[x])=insP n p++[x]:=by
 have e:insD n (p++[x])=true:=(by rw [xK,h];rfl);rw [insP,insP,if_pos e,if_pos h,ins_some n x p h]
theorem insP_less {n x:Int} {p:List Int} (h:insD n p=false) (hx:¬n<=x):insP n (p++[x])=insP n p++[x]:=by
 have e:insD n (p++[x])=false:=(by rw [xK,h];simpa using hx);rw [insP,insP,if_neg (by simp [e]),if_neg (by simp [h])]
theorem insP_here {n x:Int} {p:List Int} (h:insD n p=false) (hx:n<=x):insP n (p++[x])=insP n p++(if n<x then [n,x] else [x]):=by
 have e:insD n (p++[x])=true:=(by rw [xK,h];simpa using hx);rw [insP,insP,if_pos e,if_neg (by simp [h]),ins_at n x hx p h]
theorem insP_end (n:Int) (p:List Int):ins n p=insP n p++(if insD n p=true then [] else [n]):=by
 unfold insP;by_cases h:insD n p=true
 ·simp [h]
 ·rw [if_neg h,if_neg h,ins_none n p (by simpa using h)]
theorem ins_len (n:Int):∀ (p:List Int),(ins n p).length<=p.length+1
 | []=>by simp [ins]
 | x :: t=>by
  have:=ins_len n t;rw [ins]
  split
  ·split<;>simp
  ·simp;omega
theorem insP_len (n:Int) (p:List Int):(insP n p).length<=p.length+1:=by
 unfold insP
 split
 ·exact ins_len n p
 ·omega
theorem jP {ok:Nat->Prop} {w:World} {v:Value} {l:List Int} (n:Int) (hl:HInts ok w v l) (hll:l.length<=2000000) :
  Calls Tryz.prog 77 #[v,.int .i64 n] w fun e w'=>∃ v',e=.returned v'/\OwnL kInt w.heap.size w' v' (ins n l)/\Below w.heap.size w w':=by
 obtain ⟨ao,cap,rfl,hc1,hc2,_⟩:=hl.at;have HL:=zG hl;clear hl;have mE:∀ (N:Nat) (V:World) (x:Int),kInt.E (fun i=>N<=i) V [.int .i64 x] x:=fun _ _ _=>rfl;have mM:∀ k:Nat,k<=3000000->(k+1)*kInt.bytes<=140737488355328:=fun k hk=>by show (k+1)*8<=_;omega
 have mL:∀ k:Nat,k<=3000000->k+1<=maxLen:=fun k hk=>by unfold maxLen;omega
 go_enter Tryz.func77,Tryz.ntmps77;go_wp2_with fail;go_loopg [5,6,7] l.length (fun gh s5 s6 s7 wr=>∃ (i:Nat) (d:Bool),s7=.int .i64 (i:Int)/\s6=.bool d/\i<=l.length/\l.length<=gh+i/\Hid (d=insD n (l.take i))/\Hid (OwnL kInt w.heap.size wr s5 (insP n (l.take i)))/\Below w.heap.size w wr)
 case atStart=>exact ⟨0,false,rfl,rfl,by omega,by omega,zG rfl,zG OwnL.nil,Below.refl _ _⟩
 case round=>
  obtain ⟨i,d,rfl,rfl,his,hgi,HD,HO,bR⟩:=hrel;have yR:=bR.size;have hpl:=insP_len n (l.take i);rw [List.length_take,Nat.min_eq_left his] at hpl;have own:=HO.out;have hNb:=fun k hk=>(own.lt k hk).2;by_cases hlt:i<l.length
  case neg=>
   have hge:¬(i:Int)<(l.length:Int):=(by omega);have hie:i=l.length:=(by omega);have HE:=zG (insP_end n l);have HD2:=zG (show d=insD n l by rw [HD.out,hie,List.take_length]);have eT:l.take i=l:=(by rw [hie,List.take_length]);rw [eT] at own hpl;clear HD HO eT
   cases d with
   | true=>
    go_wp2_with fail;go_ret;refine ⟨_,rfl,?_,bR⟩;rw [HE.out,<-HD2.out,if_pos rfl,List.append_nil];exact own
   | false=>
    generalize hP:insP n l=P at own hpl
    go_wp2_with (at_builtin;refine zS kInt rfl _ _ 23 3 rfl Tryz.underlying23 w.heap.size wr.heap.size _ P (by rfl) own [.int .i64 n] n (mE _ _ _) (by rfl) hNb yR yR (mM _ (by omega)) (mL _ (by omega)) ?_;intro v8 w8 own8 b8 _ _)
    go_ret;refine ⟨_,rfl,?_,bR.trans b8⟩;rw [HE.out,<-HD2.out,hP];exact own8
  case pos=>
   have hltI:(i:Int)<(l.length:Int):=(by omega);obtain ⟨ao',cap',ev,_,_,hatR⟩:=(HL.out.under bR).at;injection ev with ev1 ev2 ev3;subst ev1;obtain ⟨b,o,rfl,hb,c0⟩:=hatR i hlt;clear hatR ev2 ev3;have HX:Hid (∀ V:World,Below w.heap.size w V->V.cell? ⟨b,o+i,none⟩=some (.int .i64 l[i])):=zG (fun V bV=>by
    obtain ⟨ao',cap',ev,_,_,hatV⟩:=(HL.out.under bV).at;injection ev with ev1 ev2 ev3;subst ev1;obtain ⟨b',o',e,hb',c1⟩:=hatV i hlt;injection e with e;injection e with e1 e2 e3;subst e1 e2;exact c1)
   have HT:=zG (List.take_succ_eq_append_getElem hlt);generalize l[i]=x at c0 HT HX;generalize hp:l.take i=p at HD HO own hpl HT;generalize hP:insP n p=P at own hpl HO;have HP:=zG hP;clear hP hp
   cases d with
   | true=>
    have HS:=zG (show insP n (l.take (i+1))=P++[x] by rw [HT.out,insP_true HD.out.symm,HP.out]);have HS2:=zG (show true=insD n (l.take (i+1)) by rw [HT.out,xK,<-HD.out];rfl);clear HT HD HP
    go_wp2_with (at_builtin;refine zS kInt rfl _ _ 23 3 rfl Tryz.underlying23 w.heap.size wr.heap.size _ P (by rfl) own [.int .i64 x] x (mE _ _ _) (by rfl) hNb yR yR (mM _ (by omega)) (mL _ (by omega)) ?_;intro v8 w8 own8 b8 _ _)
    go_roundg (gk-1)
    case measure=>omega
    case rel=>exact ⟨i+1,true,by go_num,rfl,by omega,by omega,HS2,zG (by rw [HS.out];exact own8),bR.trans b8⟩
   | false=>
    by_cases hx:n<=x
    ·have HS2:=zG (show true=insD n (l.take (i+1)) by rw [HT.out,xK,<-HD.out];simpa using hx)
     by_cases hy:n<x
     ·have HS:=zG (show insP n (l.take (i+1))=(P++[n])++[x] by rw [HT.out,insP_here HD.out.symm hx,HP.out,if_pos hy];simp)
      clear HT HD HP;go_upto_region 9 with (at_builtin;refine zS kInt rfl _ _ 23 3 rfl Tryz.underlying23 w.heap.size wr.heap.size _ P (by rfl) own [.int .i64 n] n (mE _ _ _) (by rfl) hNb yR yR (mM _ (by omega)) (mL _ (by omega)) ?_;intro v8 w8 own8 b8 _ _);have y8:=(bR.trans b8).size;have hN8:=fun k hk=>(own8.lt k hk).2;have c8:=HX.out w8 (bR.trans b8);clear c0;have hl8:(P++[n]).length<=3000000:=(by simp;omega);generalize P++[n]=P2 at own8 HS hl8
      go_wp2_with (at_builtin;refine zS kInt rfl _ _ 23 3 rfl Tryz.underlying23 w.heap.size w8.heap.size _ P2 (by rfl) own8 [.int .i64 x] x (mE _ _ _) (by rfl) hN8 y8 y8 (mM _ hl8) (mL _ hl8) ?_;intro v9 w9 own9 b9 _ _)
      go_roundg (gk-1)
      case measure=>omega
      case rel=>exact ⟨i+1,true,by go_num,rfl,by omega,by omega,HS2,zG (by rw [HS.out];exact own9),(bR.trans b8).trans b9⟩
     ·have HS:=zG (show insP n (l.take (i+1))=P++[x] by rw [HT.out,insP_here HD.out.symm hx,HP.out,if_neg hy])
      clear HT HD HP
      go_wp2_with (at_builtin;refine zS kInt rfl _ _ 23 3 rfl Tryz.underlying23 w.heap.size wr.heap.size _ P (by rfl) own [.int .i64 x] x (mE _ _ _) (by rfl) hNb yR yR (mM _ (by omega)) (mL _ (by omega)) ?_;intro v8 w8 own8 b8 _ _)
      go_roundg (gk-1)
      case measure=>omega
      case rel=>exact ⟨i+1,true,by go_num,rfl,by omega,by omega,HS2,zG (by rw [HS.out];exact own8),bR.trans b8⟩
    ·have HS:=zG (show insP n (l.take (i+1))=P++[x] by rw [HT.out,insP_less HD.out.symm hx,HP.out])
     have HS2:=zG (show false=insD n (l.take (i+1)) by rw [HT.out,xK,<-HD.out];simpa using hx);clear HT HD HP
     go_wp2_with (at_builtin;refine zS kInt rfl _ _ 23 3 rfl Tryz.underlying23 w.heap.size wr.heap.size _ P (by rfl) own [.int .i64 x] x (mE _ _ _) (by rfl) hNb yR yR (mM _ (by omega)) (mL _ (by omega)) ?_;intro v8 w8 own8 b8 _ _)
     go_roundg (gk-1)
     case measure=>omega
     case rel=>exact ⟨i+1,false,by go_num,rfl,by omega,by omega,HS2,zG (by rw [HS.out];exact own8),bR.trans b8⟩
end Go.Proofs.YtegakbobaecdlaaGreatDoor
namespace Go.Proofs.YtegakbobaecdlaaGreatDoor
open Go.Shelf Go.RowKit Go.Lib Go.IntWalk
def foldI (L:List Int):List Int:=L.foldl (fun o x=>ins x o) []
theorem jQ (L:List Int) (x:Int):foldI (L++[x])=ins x (foldI L):=by simp [foldI]
theorem foldl_len:∀ (L o:List Int),(L.foldl (fun o x=>ins x o) o).length<=o.length+L.length
 | [],o=>by simp
 | x :: t,o=>by
  have h1:=foldl_len t (ins x o);have h2:=ins_len x o;simp only [List.foldl_cons,List.length_cons];omega
theorem foldI_len (L:List Int):(foldI L).length<=L.length:=by simpa [foldI] using foldl_len L []
theorem named_any (p:Pu) (w:World):Calls Tryz.prog 78 #[.agg #[.int .i64 p.op,.int .i64 p.k,.int .i64 p.v,.int .i64 p.n]] w fun e w'=>e=.returned (.bool (nmd p))/\Below w.heap.size w w':=by
 have bA:Below w.heap.size w (w.alloc (.cells #[.int .i64 p.op,.int .i64 p.k,.int .i64 p.v,.int .i64 p.n] 79 (0,0))):=(Below.refl _ _).alloc zL _;unfold nmd;by_cases h2:(p.op==2)=true
 ·go_enter Tryz.func78,Tryz.ntmps78
  go_wp2;go_ret;exact ⟨by simp [h2],bA⟩
 have h2:(p.op==2)=false:=(by simpa using h2);by_cases h3:(p.op==3)=true
 ·go_enter Tryz.func78,Tryz.ntmps78
  go_wp2;go_ret;exact ⟨by simp [h2,h3],bA⟩
 have h3:(p.op==3)=false:=(by simpa using h3);go_enter Tryz.func78,Tryz.ntmps78;go_wp2;go_ret;exact ⟨by simp [h2,h3],bA⟩
theorem vO {ok:Nat->Prop} {w:World} {va ve:Value} {A:List Int} {E:List Pu} (op k out n:Int) (hA:HInts ok w va A) (hE:HPu ok w ve E) (hAl:A.length<=1000000) (hEl:E.length<=1000000) :
  Calls Tryz.prog 45 #[.agg #[.int .i64 op,.int .i64 k,.int .i64 out,.int .i64 n,va,ve]] w fun e w'=>∃ v,e=.returned v/\OwnL kInt w.heap.size w' v (foldI (usesL A E))/\Below w.heap.size w w':=by
 obtain ⟨aA,cA,rfl,hA1,hA2,_⟩:=hA.at;obtain ⟨aE,cE,rfl,hE1,hE2,_⟩:=hE.at;have HA:=zG hA;have HE:=zG hE;clear hA hE;obtain ⟨W,hW⟩:=nmQ (w.alloc (.cells #[.int .i64 op,.int .i64 k,.int .i64 out,.int .i64 n,.slice aA A.length cA,.slice aE E.length cE] 40 (0,0)));have bA:=newB hW;have KA:W.heap[w.heap.size]?=some (.cells #[.int .i64 op,.int .i64 k,.int .i64 out,.int .i64 n,.slice aA A.length cA,.slice aE E.length cE] 40 (0,0)):=(by rw [hW];exact zJ w _);go_enter Tryz.func45,Tryz.ntmps45;go_upto_region 1 with fail;rw [<-hW];clear hW;go_wp2_with fail;go_loopg [3,4] A.length (fun gh s3 s4 wr=>∃ i:Nat,s4=.int .i64 (i:Int)/\i<=A.length/\A.length<=gh+i/\Hid (OwnL kInt (w.heap.size+1) wr s3 (foldI (A.take i)))/\Below w.heap.size w wr/\wr.heap[w.heap.size]?=some (.cells #[.int .i64 op,.int .i64 k,.int .i64 out,.int .i64 n,.slice aA A.length cA,.slice aE E.length cE] 40 (0,0)))
 case atStart=>exact ⟨0,rfl,by omega,by omega,zG OwnL.nil,bA,KA⟩
 case round=>
  clear bA KA;obtain ⟨i,rfl,his,hgi,HO,bR,K⟩:=hrel;have yR:=bR.size;have yK:=zH K;have d4:=coQ K 4;have d5:=coQ K 5;simp at d4 d5;by_cases hlt:i<A.length
  case neg=>
   have hge:¬(i:Int)<(A.length:Int):=(by omega);have hie:i=A.length:=(by omega);have o2:=HO.out;rw [hie,List.take_length] at o2;clear HO hie;obtain ⟨wo,hwo⟩:=nmQ (wr);subst hwo;go_upto_region 6 with fail;clear hge hgi his;go_wp2_with fail;go_loopg [3,5] E.length (fun gh s3 s5 wr=>∃ i:Nat,s5=.int .i64 (i:Int)/\i<=E.length/\E.length<=gh+i/\Hid (OwnL kInt (w.heap.size+1) wr s3 (foldI (usesL A (E.take i))))/\Below w.heap.size w wr/\wr.heap[w.heap.size]?=some (.cells #[.int .i64 op,.int .i64 k,.int .i64 out,.int .i64 n,.slice aA A.length cA,.slice aE E.length cE] 40 (0,0)))
   case atStart=>exact ⟨0,rfl,by omega,by omega,zG (by simpa [usesL] using o2),bR,K⟩
   case round=>
    clear o2 bR K d4 d5 yR yK;obtain ⟨i,rfl,his,hgi,HO,bR,K⟩:=hrel;have yR:=bR.size;have yK:=zH K;have d5:=coQ K 5;simp at d5;by_cases hlt:i<E.length
    case neg=>
     have hge:¬(i:Int)<(E.length:Int):=(by omega);have hie:i=E.length:=(by omega);have ho:=HO.out;rw [hie,List.take_length] at ho;go_wp2_with fail;go_ret;exact ⟨_,rfl,qY ho (Nat.le_succ _),bR⟩
    case pos=>
     have hltI:(i:Int)<(E.length:Int):=(by omega);obtain ⟨ao',cap',ev,_,_,hatR⟩:=(HE.out.under bR).at;injection ev with ev1 ev2 ev3;subst ev1;obtain ⟨b,o,rfl,hb,c0,c1,c2,c3⟩:=hatR i hlt;clear hatR ev2 ev3;have HX:Hid (∀ V:World,Below w.heap.size w V->V.cell? ⟨b,o+i*4+2,none⟩=some (.int .i64 (E[i]).v)):=zG (fun V bV=>by
      obtain ⟨ao',cap',ev,_,_,hatV⟩:=(HE.out.under bV).at;injection ev with ev1 ev2 ev3;subst ev1;obtain ⟨b',o',e,hb',_,_,c1,_⟩:=hatV i hlt;injection e with e;injection e with e1 e2 e3;subst e1 e2;exact c1)
     have HS:=zG (zAG A E i hlt);have hul:=foldI_len (usesL A (E.take i));have hul2:=vI A (E.take i);rw [List.length_take,Nat.min_eq_left his] at hul2;generalize E[i]=p at c0 c1 c2 c3 HS HX;have hcall:=named_any p
     cases hn:nmd p with
     | false=>
      rw [hn] at HS;simp only [Bool.false_eq_true,if_false,List.append_nil] at HS;have hc:=hcall wr;rw [hn] at hc
      go_wp2_with (go_at_call 78;refine hc.mono ?_;rintro e w' ⟨rfl,b5⟩)
      go_roundg (gk-1)
      case measure=>omega
      case rel=>exact ⟨i+1,by go_num,by omega,by omega,zG (by rw [HS.out];exact HO.out.below b5),bR.trans (b5.mono yR),(b5.block _ yK).trans K⟩
     | true=>
      rw [hn] at HS;simp only [if_true] at HS;have hc:=hcall wr;rw [hn] at hc;go_wp2_with fail;refine hc.mono ?_;rintro e w5 ⟨rfl,b5⟩;have c5:=HX.out w5 (bR.trans (b5.mono yR));have K5:=(b5.block _ yK).trans K;clear c0 c1 c2 c3 d5;have d5:=coQ K5 5;simp at d5;have own:=HO.out.below b5;have y5:=b5.size;have hi:=jP p.v (zU own.row) (by omega)
      go_wp2_with (go_at_call 77;refine hi.mono ?_;rintro e w6 ⟨v6,rfl,own6,b6⟩)
      go_roundg (gk-1)
      case measure=>omega
      case rel=>exact ⟨i+1,by go_num,by omega,by omega,zG (by rw [HS.out,jQ];exact qY own6 (by omega)),(bR.trans (b5.mono yR)).trans (b6.mono (by omega)),(b6.block _ (by omega)).trans K5⟩
  case pos=>
   have hltI:(i:Int)<(A.length:Int):=(by omega);obtain ⟨ao',cap',ev,_,_,hatR⟩:=(HA.out.under bR).at;injection ev with ev1 ev2 ev3;subst ev1;obtain ⟨b,o,rfl,hb,c0⟩:=hatR i hlt;clear hatR ev2 ev3;have HT:=zG (List.take_succ_eq_append_getElem hlt);have hul:=foldI_len (A.take i);rw [List.length_take,Nat.min_eq_left his] at hul;generalize A[i]=x at c0 HT;have own:=HO.out;have hi:=jP x (zU own.row) (by omega)
   go_wp2_with (go_at_call 77;refine hi.mono ?_;rintro e w6 ⟨v6,rfl,own6,b6⟩)
   go_roundg (gk-1)
   case measure=>omega
   case rel=>exact ⟨i+1,by go_num,by omega,by omega,zG (by rw [HT.out,jQ];exact qY own6 (by omega)),bR.trans (b6.mono yR),(b6.block _ yK).trans K⟩
end Go.Proofs.YtegakbobaecdlaaGreatDoor
namespace Go.Proofs.YtegakbobaecdlaaGreatDoor
open Go.Shelf Go.RowKit Go.Lib Go.IntWalk
def SS (l:List Int):Prop:=l.Pairwise (fun x y=>x<y)
theorem ss_eq:∀ (a b:List Int),SS a->SS b->(∀ y,y ∈ a↔y ∈ b)->a=b
 | [],[],_,_,_=>rfl
 | [],y :: t,_,_,h=>by have:=(h y).2 (by simp);simp at this
 | x :: s,[],_,_,h=>by have:=(h x).1 (by simp);simp at this
 | x :: s,y :: t,ha,hb,h=>by
  have ha':=List.pairwise_cons.1 ha;have hb':=List.pairwise_cons.1 hb;have e:x=y:=by
   have h1:=(h x).1 (by simp);have h2:=(h y).2 (by simp);rcases List.mem_cons.1 h1 with h1 | h1
   ·exact h1
   rcases List.mem_cons.1 h2 with h2 | h2
   ·exact h2.symm
   have:=hb'.1 x h1;have:=ha'.1 y h2;omega
  subst e;have:=ss_eq s t ha'.2 hb'.2 (fun z=>by
   constructor
   ·intro hz
    rcases List.mem_cons.1 ((h z).1 (List.mem_cons_of_mem _ hz)) with q | q
    ·have:=ha'.1 z hz;omega
    ·exact q
   ·intro hz
    rcases List.mem_cons.1 ((h z).2 (List.mem_cons_of_mem _ hz)) with q | q
    ·have:=hb'.1 z hz;omega
    ·exact q)
  rw [this]
theorem mem_ins (n y:Int):∀ (l:List Int),y ∈ ins n l↔y=n\/y ∈ l
 | []=>by simp [ins]
 | x :: t=>by
  have ih:=mem_ins n y t;rw [ins];by_cases h1:n<=x
  ·rw [if_pos h1]
   by_cases h2:n<x
   ·rw [if_pos h2];simp
   ·rw [if_neg h2]
    have:x=n:=(by omega);subst this;simp
  ·rw [if_neg h1]
   simp only [List.mem_cons,ih]
   constructor
   ·rintro (h | h | h)
    ·exact .inr (.inl h)
    ·exact .inl h
    ·exact .inr (.inr h)
   ·rintro (h | h | h)
    ·exact .inr (.inl h)
    ·exact .inl h
    ·exact .inr (.inr h)
theorem ins_ss (n:Int):∀ (l:List Int),SS l->SS (ins n l)
 | [],_=>by simp [ins,SS]
 | x :: t,h=>by
  have h':=List.pairwise_cons.1 h;rw [ins];by_cases h1:n<=x
  ·rw [if_pos h1]
   by_cases h2:n<x
   ·rw [if_pos h2]
    refine List.pairwise_cons.2 ⟨fun y hy=>?_,h⟩;rcases List.mem_cons.1 hy with e | hy
    ·omega
    ·have:=h'.1 y hy;omega
   ·rw [if_neg h2];exact h
  ·rw [if_neg h1]
   refine List.pairwise_cons.2 ⟨fun y hy=>?_,ins_ss n t h'.2⟩;rcases (mem_ins n y t).1 hy with e | hy
   ·omega
   ·exact h'.1 y hy
theorem jR:∀ (L o:List Int),SS o->SS (L.foldl (fun o x=>ins x o) o)/\∀ y,y ∈ L.foldl (fun o x=>ins x o) o↔y ∈ o\/y ∈ L
 | [],o,h=>⟨h,fun y=>by simp⟩
 | x :: t,o,h=>by
  obtain ⟨h1,h2⟩:=jR t (ins x o) (ins_ss x o h);refine ⟨h1,fun y=>?_⟩;rw [List.foldl_cons,h2 y,mem_ins,List.mem_cons]
  constructor
  ·rintro ((h | h) | h)
   ·exact .inr (.inl h)
   ·exact .inl h
   ·exact .inr (.inr h)
  ·rintro (h | h | h)
   ·exact .inl (.inr h)
   ·exact .inl (.inl h)
   ·exact .inr h
theorem jS {l:List Int} (hs:l.Pairwise (fun x y=>x<=y)):∀ m,m<=l.length->SS (Lib.compactUpTo l.toArray m)/\∀ y,y ∈ Lib.compactUpTo l.toArray m↔∃ j,j<m/\l.toArray[j]! = y
 | 0,_=>⟨by simp [Lib.compactUpTo,SS],fun y=>by simp [Lib.compactUpTo]⟩
 | m+1,hm=>by
  obtain ⟨h1,h2⟩:=jS hs m (by omega);have hle:∀ i j,i<=j->j<l.length->l.toArray[i]! <= l.toArray[j]! := fun i j hij hj=>by
   rcases Nat.lt_or_eq_of_le hij with h | h
   ·have:=(List.pairwise_iff_getElem.1 hs) i j (by omega) hj h
    simpa [hj,show i<l.length by omega] using this
   ·subst h;exact Int.le_refl _
  rw [Lib.compactUpTo_succ];by_cases hk:Lib.keeps l.toArray m=true
  ·rw [if_pos hk]
   refine ⟨?_,fun y=>?_⟩
   ·refine List.pairwise_append.2 ⟨h1,by simp,fun a ha b hb=>?_⟩
    obtain rfl:b=l.toArray[m]! := by simpa using hb
    obtain ⟨j,hj,rfl⟩:=(h2 a).1 ha;have hk':m=0\/l.toArray[m]! ≠ l.toArray[m-1]! := (by simpa [Lib.keeps] using hk);rcases hk' with h | h
    ·omega
    ·have:=hle j (m-1) (by omega) (by omega)
     have:=hle (m-1) m (by omega) (by omega);omega
   ·rw [List.mem_append,h2 y,List.mem_singleton]
    constructor
    ·rintro (⟨j,hj,e⟩ | e)
     ·exact ⟨j,by omega,e⟩
     ·exact ⟨m,by omega,e.symm⟩
    ·rintro ⟨j,hj,e⟩
     rcases Nat.lt_or_eq_of_le (Nat.le_of_lt_succ hj) with h | h
     ·exact .inl ⟨j,h,e⟩
     ·subst h;exact .inr e.symm
  ·rw [if_neg hk,List.append_nil]
   refine ⟨h1,fun y=>?_⟩;have hk':m≠0/\l.toArray[m]! = l.toArray[m-1]! := by
    have:¬(m=0\/l.toArray[m]! ≠ l.toArray[m-1]!):=by
     intro h;exact hk (by unfold Lib.keeps;exact decide_eq_true h)
    constructor
    ·intro h;exact this (.inl h)
    ·exact Decidable.byContradiction fun h=>this (.inr h)
   rw [h2 y]
   constructor
   ·rintro ⟨j,hj,e⟩;exact ⟨j,by omega,e⟩
   ·rintro ⟨j,hj,e⟩
    rcases Nat.lt_or_eq_of_le (Nat.le_of_lt_succ hj) with h | h
    ·exact ⟨j,h,e⟩
    ·subst h;exact ⟨j-1,by omega,by rw [<-hk'.2];exact e⟩
theorem sort_le (L:List Int):(L.mergeSort leB).Pairwise (fun x y=>x<=y):=by
 have h:=List.pairwise_mergeSort (le:=leB) (by intro a b c;simp [leB];omega) (by intro a b;simp [leB];omega) L;exact h.imp (fun h=>by simpa [leB] using h)
theorem arr_at (l:List Int) (j:Nat) (h:j<l.length):l.toArray[j]! = l[j]:=by simp [h]
theorem foldI_eq (L:List Int):foldI L=Lib.compact (L.mergeSort leB):=by
 obtain ⟨h1,h2⟩:=jR L [] (by simp [SS]);obtain ⟨h3,h4⟩:=jS (sort_le L) (L.mergeSort leB).length zL;refine ss_eq _ _ h1 h3 (fun y=>?_);unfold foldI Lib.compact;rw [h2 y];rw [h4 y]
 constructor
 ·rintro (h | h)
  ·cases h
  ·have hm:y ∈ L.mergeSort leB:=List.mem_mergeSort.2 h
   obtain ⟨j,hj,e⟩:=List.getElem_of_mem hm;exact ⟨j,hj,by rw [arr_at _ j hj];exact e⟩
 ·rintro ⟨j,hj,e⟩
  have hm:y ∈ L.mergeSort leB:=(by rw [<-e,arr_at _ j hj];exact List.getElem_mem hj);exact .inr (List.mem_mergeSort.1 hm)
end Go.Proofs.YtegakbobaecdlaaGreatDoor
