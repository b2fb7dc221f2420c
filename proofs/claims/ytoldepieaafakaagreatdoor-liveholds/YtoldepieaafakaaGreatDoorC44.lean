import Derived.Test.YtoldepieaafakaaGreatDoorC39
set_option linter.unusedVariables false
set_option linter.unusedSimpArgs false
set_option maxHeartbeats 64000000
set_option maxRecDepth 100000
namespace Go.Proofs.YtoldepieaafakaaGreatDoor
open Go.Shelf Go.RowKit Go.Lib Go.IntWalk
def ins (n:Int):List Int->List Int
 | []=>[n]
 | x :: t=>if n<=x then (if n<x then n :: x :: t else x :: t) else x :: ins n t
def insD (n:Int) (p:List Int):Bool:=p.any (fun x=>decide (n<=x))
def insP (n:Int) (p:List Int):List Int:=if insD n p=true then ins n p else p
theorem ins_none (n:Int):∀ (p:List Int),insD n p=false->ins n p=p++[n]
 | [],_=>rfl
 | x :: t,h=>by
  simp [insD] at h;have:=ins_none n t (by simpa [insD] using h.2);rw [ins,if_neg (by omega),this];rfl
theorem ins_some (n x:Int):∀ (p:List Int),insD n p=true->ins n (p++[x])=ins n p++[x]
 | [],h=>by simp [insD] at h
 | y :: t,h=>by
  by_cases hy:n<=y
  ·by_cases hz:n<y
   ·simp [ins,hy,hz]
   ·simp [ins,hy,hz]
  ·have h2:insD n t=true:=by
    simp only [insD,List.any_cons,Bool.or_eq_true,decide_eq_true_eq] at h;rcases h with h | h
    ·omega
    ·simpa [insD] using h
   simp [ins,hy,ins_some n x t h2]
theorem ins_at (n x:Int) (hx:n<=x):∀ (p:List Int),insD n p=false->ins n (p++[x])=p++(if n<x then [n,x] else [x])
 | [],_=>by simp [ins,hx]
 | y :: t,h=>by
  simp [insD] at h;have:=ins_at n x hx t (by simpa [insD] using h.2);rw [List.cons_append,ins,if_neg (by omega),this];rfl
theorem zI (n x:Int) (p:List Int):insD n (p++[x])=(insD n p || decide (n<=x)):=by simp [insD]
theorem insP_true {n x:Int} {p:List Int} (h:insD n p=true):insP n (p++[x])=insP n p++[x]:=by
 have e:insD n (p++[x])=true:=(by rw [zI,h];rfl);rw [insP,insP,if_pos e,if_pos h,ins_some n x p h]
theorem insP_less {n x:Int} {p:List Int} (h:insD n p=false) (hx:¬n<=x):insP n (p++[x])=insP n p++[x]:=by
 have e:insD n (p++[x])=false:=(by rw [zI,h];simpa using hx);rw [insP,insP,if_neg (by simp [e]),if_neg (by simp [h])]
theorem insP_here {n x:Int} {p:List Int} (h:insD n p=false) (hx:n<=x):insP n (p++[x])=insP n p++(if n<x then [n,x] else [x]):=by
 have e:insD n (p++[x])=true:=(by rw [zI,h];simpa using hx);rw [insP,insP,if_pos e,if_neg (by simp [h]),ins_at n x hx p h]
theorem insP_end (n:Int) (p:List Int):ins n p=insP n p++(if insD n p=true then [] else [n]):=by
 unfold insP;by_cases h:insD n p=true
 ·simp [h]
 ·rw [if_neg h,if_neg h,ins_none n p (by simpa using h)]
theorem ins_len (n:Int):∀ (p:List Int),(ins n p).length<=p.length+1
 | []=>by simp [ins]
 | x :: t=>by
  have:=ins_len n t;rw [ins]
  split
  ·split<;>simp
  ·simp;omega
theorem insP_len (n:Int) (p:List Int):(insP n p).length<=p.length+1:=by
 unfold insP
 split
 ·exact ins_len n p
 ·omega
theorem zBC {ok:Nat->Prop} {w:World} {v:Value} {l:List Int} (n:Int) (hl:HInts ok w v l) (hll:l.length<=2000000) :
  Calls Tryz.prog 51 #[v,.int .i64 n] w fun e w'=>∃ v',e=.returned v'/\OwnL kInt w.heap.size w' v' (ins n l)/\Below w.heap.size w w':=by
 obtain ⟨ao,cap,rfl,hc1,hc2,_⟩:=hl.at;have HL:=zD hl;clear hl;have mE:∀ (N:Nat) (V:World) (x:Int),kInt.E (fun i=>N<=i) V [.int .i64 x] x:=fun _ _ _=>rfl;have mM:∀ k:Nat,k<=3000000->(k+1)*kInt.bytes<=140737488355328:=fun k hk=>by show (k+1)*8<=_;omega
 have mL:∀ k:Nat,k<=3000000->k+1<=maxLen:=fun k hk=>by unfold maxLen;omega
 go_enter Tryz.func51,Tryz.ntmps51;go_wp2_with fail;go_loopg [5,6,7] l.length (fun gh s5 s6 s7 wr=>∃ (i:Nat) (d:Bool),s7=.int .i64 (i:Int)/\s6=.bool d/\i<=l.length/\l.length<=gh+i/\Hid (d=insD n (l.take i))/\Hid (OwnL kInt w.heap.size wr s5 (insP n (l.take i)))/\Below w.heap.size w wr)
 case atStart=>exact ⟨0,false,rfl,rfl,by omega,by omega,zD rfl,zD OwnL.nil,Below.refl _ _⟩
 case round=>
  obtain ⟨i,d,rfl,rfl,his,hgi,HD,HO,bR⟩:=hrel;have yR:=bR.size;have hpl:=insP_len n (l.take i);rw [List.length_take,Nat.min_eq_left his] at hpl;have own:=HO.out;have hNb:=fun k hk=>(own.lt k hk).2;by_cases hlt:i<l.length
  case neg=>
   have hge:¬(i:Int)<(l.length:Int):=(by omega);have hie:i=l.length:=(by omega);have HE:=zD (insP_end n l);have HD2:=zD (show d=insD n l by rw [HD.out,hie,List.take_length]);have eT:l.take i=l:=(by rw [hie,List.take_length]);rw [eT] at own hpl;clear HD HO eT
   cases d with
   | true=>
    go_wp2_with fail;go_ret;refine ⟨_,rfl,?_,bR⟩;rw [HE.out,<-HD2.out,if_pos rfl,List.append_nil];exact own
   | false=>
    generalize hP:insP n l=P at own hpl
    go_wp2_with (at_builtin;refine qK kInt rfl _ _ 23 3 rfl Tryz.underlying23 w.heap.size wr.heap.size _ P (by rfl) own [.int .i64 n] n (mE _ _ _) (by rfl) hNb yR yR (mM _ (by omega)) (mL _ (by omega)) ?_;intro v8 w8 own8 b8 _ _)
    go_ret;refine ⟨_,rfl,?_,bR.trans b8⟩;rw [HE.out,<-HD2.out,hP];exact own8
  case pos=>
   have hltI:(i:Int)<(l.length:Int):=(by omega);obtain ⟨ao',cap',ev,_,_,hatR⟩:=(HL.out.under bR).at;injection ev with ev1 ev2 ev3;subst ev1;obtain ⟨b,o,rfl,hb,c0⟩:=hatR i hlt;clear hatR ev2 ev3;have HX:Hid (∀ V:World,Below w.heap.size w V->V.cell? ⟨b,o+i,none⟩=some (.int .i64 l[i])):=zD (fun V bV=>by
    obtain ⟨ao',cap',ev,_,_,hatV⟩:=(HL.out.under bV).at;injection ev with ev1 ev2 ev3;subst ev1;obtain ⟨b',o',e,hb',c1⟩:=hatV i hlt;injection e with e;injection e with e1 e2 e3;subst e1 e2;exact c1)
   have HT:=zD (List.take_succ_eq_append_getElem hlt);generalize l[i]=x at c0 HT HX;generalize hp:l.take i=p at HD HO own hpl HT;generalize hP:insP n p=P at own hpl HO;have HP:=zD hP;clear hP hp
   cases d with
   | true=>
    have HS:=zD (show insP n (l.take (i+1))=P++[x] by rw [HT.out,insP_true HD.out.symm,HP.out]);have HS2:=zD (show true=insD n (l.take (i+1)) by rw [HT.out,zI,<-HD.out];rfl);clear HT HD HP
    go_wp2_with (at_builtin;refine qK kInt rfl _ _ 23 3 rfl Tryz.underlying23 w.heap.size wr.heap.size _ P (by rfl) own [.int .i64 x] x (mE _ _ _) (by rfl) hNb yR yR (mM _ (by omega)) (mL _ (by omega)) ?_;intro v8 w8 own8 b8 _ _)
    go_roundg (gk-1)
    case measure=>omega
    case rel=>exact ⟨i+1,true,by go_num,rfl,by omega,by omega,HS2,zD (by rw [HS.out];exact own8),bR.trans b8⟩
   | false=>
    by_cases hx:n<=x
    ·have HS2:=zD (show true=insD n (l.take (i+1)) by rw [HT.out,zI,<-HD.out];simpa using hx)
     by_cases hy:n<x
     ·have HS:=zD (show insP n (l.take (i+1))=(P++[n])++[x] by rw [HT.out,insP_here HD.out.symm hx,HP.out,if_pos hy];simp)
      clear HT HD HP;go_upto_region 9 with (at_builtin;refine qK kInt rfl _ _ 23 3 rfl Tryz.underlying23 w.heap.size wr.heap.size _ P (by rfl) own [.int .i64 n] n (mE _ _ _) (by rfl) hNb yR yR (mM _ (by omega)) (mL _ (by omega)) ?_;intro v8 w8 own8 b8 _ _);have y8:=(bR.trans b8).size;have hN8:=fun k hk=>(own8.lt k hk).2;have c8:=HX.out w8 (bR.trans b8);clear c0;have hl8:(P++[n]).length<=3000000:=(by simp;omega);generalize P++[n]=P2 at own8 HS hl8
      go_wp2_with (at_builtin;refine qK kInt rfl _ _ 23 3 rfl Tryz.underlying23 w.heap.size w8.heap.size _ P2 (by rfl) own8 [.int .i64 x] x (mE _ _ _) (by rfl) hN8 y8 y8 (mM _ hl8) (mL _ hl8) ?_;intro v9 w9 own9 b9 _ _)
      go_roundg (gk-1)
      case measure=>omega
      case rel=>exact ⟨i+1,true,by go_num,rfl,by omega,by omega,HS2,zD (by rw [HS.out];exact own9),(bR.trans b8).trans b9⟩
     ·have HS:=zD (show insP n (l.take (i+1))=P++[x] by rw [HT.out,insP_here HD.out.symm hx,HP.out,if_neg hy])
      clear HT HD HP
      go_wp2_with (at_builtin;refine qK kInt rfl _ _ 23 3 rfl Tryz.underlying23 w.heap.size wr.heap.size _ P (by rfl) own [.int .i64 x] x (mE _ _ _) (by rfl) hNb yR yR (mM _ (by omega)) (mL _ (by omega)) ?_;intro v8 w8 own8 b8 _ _)
      go_roundg (gk-1)
      case measure=>omega
      case rel=>exact ⟨i+1,true,by go_num,rfl,by omega,by omega,HS2,zD (by rw [HS.out];exact own8),bR.trans b8⟩
    ·have HS:=zD (show insP n (l.take (i+1))=P++[x] by rw [HT.out,insP_less HD.out.symm hx,HP.out])
     have HS2:=zD (show false=insD n (l.take (i+1)) by rw [HT.out,zI,<-HD.out];simpa using hx);clear HT HD HP
     go_wp2_with (at_builtin;refine qK kInt rfl _ _ 23 3 rfl Tryz.underlying23 w.heap.size wr.heap.size _ P (by rfl) own [.int .i64 x] x (mE _ _ _) (by rfl) hNb yR yR (mM _ (by omega)) (mL _ (by omega)) ?_;intro v8 w8 own8 b8 _ _)
     go_roundg (gk-1)
     case measure=>omega
     case rel=>exact ⟨i+1,false,by go_num,rfl,by omega,by omega,HS2,zD (by rw [HS.out];exact own8),bR.trans b8⟩
end Go.Proofs.YtoldepieaafakaaGreatDoor
