import Derived.Test.YthkpanbgkimhoaaGreatDoorM07
import Derived.Test.YthkpanbgkimhoaaGreatDoorM05
import Derived.Deep.LoopGhost
set_option linter.unusedVariables false
set_option linter.unusedSimpArgs false
set_option maxHeartbeats 64000000
set_option maxRecDepth 100000
namespace Go.Proofs.YthkpanbgkimhoaaGreatDoor
open Go.RowKit Go.IntWalk
theorem terms_nil {ok:Nat→Prop} {w:World}:HTerms ok w (.slice none 0 0) []:=⟨fun _=>[],Sl.nil,fun i h=>absurd h (Nat.not_lt_zero _)⟩
theorem zAD {b g cap:Nat} {I:Inp} {op:Nat}:Does 83 b g cap I op dcV (Ps.decl I):=by
 intro nx w h hG;have hb:=h.bb;have hg:=h.gb;go_enter Tryz.func83,Tryz.ntmps83;go_wp2_with fail;refine (jM (h.alloc _)).mono ?_;rintro e w1 ⟨a1,hres⟩;have z1:w.heap.size+1≤w1.heap.size:=(by simpa using a1.size);have A1:=((Aside.refl (S:=[b]) (B:=w.heap.size) w).alloc nR _).trans a1 (by simp)
 cases hn:Ps.name I nx with
 | err c a=>
  rw [hn] at hres;obtain rfl:e=_:=hres;exact ⟨rfl,Post.fail (by unfold Ps.decl;rw [hn];rfl) A1⟩
 | ok s n1=>
  rw [hn] at hres;obtain ⟨le1,h1,_,rfl,rfl⟩:=hres;have hA1:=a1.keep (zF w _) (by simp) (by simp;omega);have HN:=zD hn;clear hn;go_wp2_with fail;refine (zM (h1.alloc _) ⟨#[58]⟩ (by decide)).mono ?_;rintro e w2 ⟨a2,hres⟩;have z2:w1.heap.size+1≤w2.heap.size:=(by simpa using a2.size);have A2:=(A1.alloc (by omega) _).trans a2 (by simp;omega);have hB2:=a2.keep (zF w1 _) (by simp) (by simp;omega);have hA2:=a2.keep (kA hA1 _) (by simp;omega) (by simp;omega);have es:(⟨#[58]⟩:ByteArray).data.toList=[58]:=rfl;rw [es] at hres;clear es hA1 a1 a2 A1
  cases hn:Ps.need I [58] n1 with
  | err c a=>
   rw [hn] at hres;obtain rfl:e=_:=hres;exact ⟨rfl,Post.fail (by unfold Ps.decl;rw [HN.out];simp only [Res.bind];rw [hn]) A2⟩
  | ok u n2=>
   rw [hn] at hres;obtain ⟨le2,h2,_,rfl,rfl⟩:=hres;have hmod:Hid (Ps.decl I nx=if Ps.sees I [105,110,116] n2=true then Ps.declN I s 105 (n2+1) else if Ps.sees I [98,111,111,108] n2=true then Ps.declN I s 98 (n2+1) else Ps.refuse I n2):=by
    show Ps.decl I nx=_
    unfold Ps.decl;rw [HN.out];simp only [Res.bind];rw [hn]
   clear HN hn h1;go_wp2_with fail;refine (zS h2 ⟨#[105,110,116]⟩ (by decide)).mono ?_;rintro e w3 ⟨rfl,h3,a3⟩;have z3:=a3.size;have A3:=A2.trans a3 (by omega);have hA3:=a3.keep hA2 (by omega) (by simp;omega);have hB3:=a3.keep hB2 (by omega) (by simp;omega);have es:(⟨#[105,110,116]⟩:ByteArray).data.toList=[105,110,116]:=rfl;rw [es] at h3;simp only [es];clear es hA2 hB2 a3 A2 h2
   cases hq:Ps.sees I [105,110,116] n2 with
   | true=>
    rw [hq] at h3;simp only [if_true] at h3;have hmodN:Hid (Ps.decl I nx=Ps.declN I s 105 (n2+1)):=by
     show Ps.decl I nx=_
     rw [hmod.out];simp [hq]
    have u1:=co hB3 1;have g1:=fo hB3 1;simp at u1;have hB5:=zJ hB3 1 (.int .u8 105);have hA5:=zK hA3 (p:=⟨w1.heap.size,1,none⟩) (by simp;omega) (.int .u8 105);have h5:=h3.set (p:=⟨w1.heap.size,1,none⟩) (by simp;omega) (by simp;omega) (.int .u8 105);have A5:=A3.set (p:=⟨w1.heap.size,1,none⟩) (by simp;omega) (.int .u8 105);have z5:(w3.setCell ⟨w1.heap.size,1,none⟩ (.int .u8 105)).heap.size=w3.heap.size:=(by simp [World.setCell]);simp at hB5;go_wp2_with fail;generalize w3.setCell ⟨w1.heap.size,1,none⟩ (.int .u8 105)=w5 at hB5 hA5 h5 A5 z5 ⊢;clear u1 g1 hA3 hB3 h3 A3 hmod;refine (zS h5 ⟨#[94]⟩ (by decide)).mono ?_;rintro e w6 ⟨rfl,h6,a6⟩;have z6:=a6.size;have A6:=A5.trans a6 (by omega);have hA6:=a6.keep hA5 (by omega) (by simp;omega);have hB6:=a6.keep hB5 (by omega) (by simp;omega);have es:(⟨#[94]⟩:ByteArray).data.toList=[94]:=rfl;rw [es] at h6;simp only [es];clear es a6 A5 h5 hA5 hB5
    cases hq6:Ps.sees I [94] (n2+1) with
    | false=>
     rw [hq6] at h6;simp only [Bool.false_eq_true,if_false] at h6;have cb0:=co hB6 0;have cb1:=co hB6 1;have cb2:=co hB6 2;have ca0:=co hA6 0;have ca1:=co hA6 1;have ca2:=co hA6 2;have fA:=fun o=>fo hA6 o;simp at cb0 cb1 cb2 ca0 ca1 ca2;go_wp2;refine bodyPost_ret (v:=.agg #[.string s,.int .u8 105,.slice none 0 0]) (by simp [results,Tryz.results83,go_sem,ca0,ca1,ca2]) rfl ?_;exact Post.good (v:=⟨s,105,[]⟩) (by rw [hmodN.out];unfold Ps.declN;rw [hq6];rfl) (((A6.set (by simp) _).set (by simp) _).set (by simp) _) (by omega) (((h6.set (by simp;omega) (by simp;omega) _).set (by simp;omega) (by simp;omega) _).set (by simp;omega) (by simp;omega) _) ⟨_,_,_,rfl,terms_nil⟩
    | true=>
     rw [hq6] at h6;simp only [if_true] at h6;go_wp2_with fail;refine (zBI h6).mono ?_;rintro e w7 ⟨a7,hres⟩;have z7:=a7.size;have A7:=A6.trans a7 (by omega);have hA7:=a7.keep hA6 (by omega) (by simp;omega);have hB7:=a7.keep hB6 (by omega) (by simp;omega);clear hA6 hB6 h6 A6
     cases hn:Ps.size I (n2+1+1) with
     | err c a=>
      rw [hn] at hres;obtain rfl:e=_:=hres;exact ⟨rfl,Post.fail (by rw [hmodN.out];unfold Ps.declN;rw [hq6,if_pos rfl,hn];rfl) A7⟩
     | ok z n3=>
      rw [hn] at hres;obtain ⟨le7,h7,x7,rfl,hV⟩:=hres;obtain ⟨ad,nd,cd,rfl⟩:=HTerms.slice hV;have cb0:=co hB7 0;have cb1:=co hB7 1;have cb2:=co hB7 2;have ca0:=co hA7 0;have ca1:=co hA7 1;have ca2:=co hA7 2;have fA:=fun o=>fo hA7 o;have fB:=fun o=>fo hB7 o;simp at cb0 cb1 cb2 ca0 ca1 ca2;have hV1:=hV.wide (ok':=fun i=>w1.heap.size<i) (fun i hi _=>by omega);have HN7:=zD hn;clear hn hV;go_wp2;refine bodyPost_ret (v:=.agg #[.string s,.int .u8 105,.slice ad nd cd]) (by simp [results,Tryz.results83,go_sem,ca0,ca1,ca2]) rfl ?_;exact Post.good (v:=⟨s,105,z⟩) (by rw [hmodN.out];unfold Ps.declN;rw [hq6,if_pos rfl,HN7.out];rfl) ((((A7.set (by simp;omega) _).set (by simp) _).set (by simp) _).set (by simp) _) (by omega) ((((h7.set (by simp;omega) (by simp;omega) _).set (by simp;omega) (by simp;omega) _).set (by simp;omega) (by simp;omega) _).set (by simp;omega) (by simp;omega) _) ⟨_,_,_,rfl,((((hV1.set (by simp) _).set (by simp;omega) _).set (by simp;omega) _).set (by simp;omega) _).wide (fun i hi _=>by omega)⟩
   | false=>
    rw [hq] at h3;simp only [Bool.false_eq_true,if_false] at h3;go_wp2_with fail;refine (zS h3 ⟨#[98,111,111,108]⟩ (by decide)).mono ?_;rintro e w4 ⟨rfl,h4,a4⟩;have z4:=a4.size;have A4:=A3.trans a4 (by omega);have hA4:=a4.keep hA3 (by omega) (by simp;omega);have hB4:=a4.keep hB3 (by omega) (by simp;omega);have es:(⟨#[98,111,111,108]⟩:ByteArray).data.toList=[98,111,111,108]:=rfl;rw [es] at h4;simp only [es];clear es hA3 hB3 a4 A3 h3
    cases hq2:Ps.sees I [98,111,111,108] n2 with
    | true=>
     rw [hq2] at h4;simp only [if_true] at h4;have hmodN:Hid (Ps.decl I nx=Ps.declN I s 98 (n2+1)):=by
      show Ps.decl I nx=_
      rw [hmod.out];simp [hq,hq2]
     have u1:=co hB4 1;have g1:=fo hB4 1;simp at u1;have hB5:=zJ hB4 1 (.int .u8 98);have hA5:=zK hA4 (p:=⟨w1.heap.size,1,none⟩) (by simp;omega) (.int .u8 98);have h5:=h4.set (p:=⟨w1.heap.size,1,none⟩) (by simp;omega) (by simp;omega) (.int .u8 98);have A5:=A4.set (p:=⟨w1.heap.size,1,none⟩) (by simp;omega) (.int .u8 98);have z5:(w4.setCell ⟨w1.heap.size,1,none⟩ (.int .u8 98)).heap.size=w4.heap.size:=(by simp [World.setCell]);simp at hB5;go_wp2_with fail;generalize w4.setCell ⟨w1.heap.size,1,none⟩ (.int .u8 98)=w5 at hB5 hA5 h5 A5 z5 ⊢;clear u1 g1 hA4 hB4 h4 A4 hmod;refine (zS h5 ⟨#[94]⟩ (by decide)).mono ?_;rintro e w6 ⟨rfl,h6,a6⟩;have z6:=a6.size;have A6:=A5.trans a6 (by omega);have hA6:=a6.keep hA5 (by omega) (by simp;omega);have hB6:=a6.keep hB5 (by omega) (by simp;omega);have es:(⟨#[94]⟩:ByteArray).data.toList=[94]:=rfl;rw [es] at h6;simp only [es];clear es a6 A5 h5 hA5 hB5
     cases hq6:Ps.sees I [94] (n2+1) with
     | false=>
      rw [hq6] at h6;simp only [Bool.false_eq_true,if_false] at h6;have cb0:=co hB6 0;have cb1:=co hB6 1;have cb2:=co hB6 2;have ca0:=co hA6 0;have ca1:=co hA6 1;have ca2:=co hA6 2;have fA:=fun o=>fo hA6 o;simp at cb0 cb1 cb2 ca0 ca1 ca2;go_wp2;refine bodyPost_ret (v:=.agg #[.string s,.int .u8 98,.slice none 0 0]) (by simp [results,Tryz.results83,go_sem,ca0,ca1,ca2]) rfl ?_;exact Post.good (v:=⟨s,98,[]⟩) (by rw [hmodN.out];unfold Ps.declN;rw [hq6];rfl) (((A6.set (by simp) _).set (by simp) _).set (by simp) _) (by omega) (((h6.set (by simp;omega) (by simp;omega) _).set (by simp;omega) (by simp;omega) _).set (by simp;omega) (by simp;omega) _) ⟨_,_,_,rfl,terms_nil⟩
     | true=>
      rw [hq6] at h6;simp only [if_true] at h6;go_wp2_with fail;refine (zBI h6).mono ?_;rintro e w7 ⟨a7,hres⟩;have z7:=a7.size;have A7:=A6.trans a7 (by omega);have hA7:=a7.keep hA6 (by omega) (by simp;omega);have hB7:=a7.keep hB6 (by omega) (by simp;omega);clear hA6 hB6 h6 A6
      cases hn:Ps.size I (n2+1+1) with
      | err c a=>
       rw [hn] at hres;obtain rfl:e=_:=hres;exact ⟨rfl,Post.fail (by rw [hmodN.out];unfold Ps.declN;rw [hq6,if_pos rfl,hn];rfl) A7⟩
      | ok z n3=>
       rw [hn] at hres;obtain ⟨le7,h7,x7,rfl,hV⟩:=hres;obtain ⟨ad,nd,cd,rfl⟩:=HTerms.slice hV;have cb0:=co hB7 0;have cb1:=co hB7 1;have cb2:=co hB7 2;have ca0:=co hA7 0;have ca1:=co hA7 1;have ca2:=co hA7 2;have fA:=fun o=>fo hA7 o;have fB:=fun o=>fo hB7 o;simp at cb0 cb1 cb2 ca0 ca1 ca2;have hV1:=hV.wide (ok':=fun i=>w1.heap.size<i) (fun i hi _=>by omega);have HN7:=zD hn;clear hn hV;go_wp2;refine bodyPost_ret (v:=.agg #[.string s,.int .u8 98,.slice ad nd cd]) (by simp [results,Tryz.results83,go_sem,ca0,ca1,ca2]) rfl ?_;exact Post.good (v:=⟨s,98,z⟩) (by rw [hmodN.out];unfold Ps.declN;rw [hq6,if_pos rfl,HN7.out];rfl) ((((A7.set (by simp;omega) _).set (by simp) _).set (by simp) _).set (by simp) _) (by omega) ((((h7.set (by simp;omega) (by simp;omega) _).set (by simp;omega) (by simp;omega) _).set (by simp;omega) (by simp;omega) _).set (by simp;omega) (by simp;omega) _) ⟨_,_,_,rfl,((((hV1.set (by simp) _).set (by simp;omega) _).set (by simp;omega) _).set (by simp;omega) _).wide (fun i hi _=>by omega)⟩
    | false=>
     rw [hq2] at h4;simp only [Bool.false_eq_true,if_false] at h4;go_wp2_with fail;refine (zAH h4).mono ?_;rintro e w5 ⟨rfl,b5⟩;exact ⟨rfl,Post.fail (by rw [hmod.out];simp [hq,hq2];rfl) (A4.trans (aside b5) A4.size)⟩
def put6 (w:World) (k:Nat) (y:ExV):World:=(((((w.setCell ⟨k,0,none⟩ (.int .i64 y.op)).setCell ⟨k,1,none⟩ (.int .i64 y.k)).setCell ⟨k,2,none⟩ (.int .i64 y.n)).setCell ⟨k,3,none⟩ (.string y.name)).setCell ⟨k,4,none⟩ (.slice y.aS y.nS y.cS)).setCell ⟨k,5,none⟩ (.slice y.aL y.nL y.cL)
theorem jU (w:World) (k:Nat) (y:ExV):(put6 w k y).heap.size=w.heap.size:=by simp [put6,World.setCell]
theorem vT (w:World) (k:Nat) (y:ExV) (i:Nat) (h:i≠k):(put6 w k y).heap[i]?=w.heap[i]?:=by
 unfold put6;rw [Below.heap_setCell _ _ _ _ h,Below.heap_setCell _ _ _ _ h,Below.heap_setCell _ _ _ _ h,Below.heap_setCell _ _ _ _ h,Below.heap_setCell _ _ _ _ h,Below.heap_setCell _ _ _ _ h]
theorem zAO {w:World} {k:Nat} {a b c d e f:Value} {t:TypeId} (h:w.heap[k]?=some (.cells #[a,b,c,d,e,f] t (0,0))) (y:ExV):(put6 w k y).heap[k]?=some (.cells #[.int .i64 y.op,.int .i64 y.k,.int .i64 y.n,.string y.name,.slice y.aS y.nS y.cS,.slice y.aL y.nL y.cL] t (0,0)):=by
 have:=zJ (zJ (zJ (zJ (zJ (zJ h 0 (.int .i64 y.op)) 1 (.int .i64 y.k)) 2 (.int .i64 y.n)) 3 (.string y.name)) 4 (.slice y.aS y.nS y.cS)) 5 (.slice y.aL y.nL y.cL)
 simpa [put6] using this
theorem Rd.put6 {w:World} {b g cap:Nat} {L:List Tk.Tok} {len nx op:Nat} (h:Rd w b g cap L len nx op) {k:Nat} (hb:k≠b) (hg:k≠g) (y:ExV):Rd (put6 w k y) b g cap L len nx op :=
 ⟨(vT _ _ _ _ hb.symm).trans h.here,h.toks.keep (vT _ _ _ _ hg.symm),h.apart,by rw [jU];exact h.gb,h.le,h.lc,h.cm⟩
theorem Aside.put6 {S:List Nat} {B:Nat} {w w':World} (h:Aside S B w w') {k:Nat} (hk:B≤k) (y:ExV):Aside S B w (put6 w' k y):=by
 unfold YthkpanbgkimhoaaGreatDoor.put6;exact ((((((h.set (p:=⟨k,0,none⟩) hk _).set (p:=⟨k,1,none⟩) hk _).set (p:=⟨k,2,none⟩) hk _).set (p:=⟨k,3,none⟩) hk _).set (p:=⟨k,4,none⟩) hk _).set (p:=⟨k,5,none⟩) hk _)
theorem HEx.put6 {ok:Nat→Prop} {w:World} {cs:List Value} {e:Ex} (h:HEx ok w cs e) {k:Nat} (hk:¬ok k) (y:ExV):HEx ok (put6 w k y) cs e :=
 h.keep (by rw [jU];exact Nat.le_refl _) fun i hi _=>vT _ _ _ _ (fun e=>hk (e ▸ hi))
theorem keep6 {w:World} {k i:Nat} {x:Obj} (hx:w.heap[i]?=some x) (h:i≠k) (y:ExV):(put6 w k y).heap[i]?=some x:=(vT _ _ _ _ h).trans hx
theorem signOp_nil:signOp []=0:=rfl
theorem zBj {I:Inp} {n:Nat} {a c:Int} (h:btw a c (I.pk n).text≠0):n<I.L.length:=by
 apply Classical.byContradiction
 intro hn
 apply h
 unfold Inp.pk peekT;simp [hn,btw,signOp_nil]
theorem zAc {I:Inp} {R:Nat→Res Ex} {a c:Int} {n:Nat} {e:Ex} (h:btw a c (I.pk n).text=0):∀ k,Ps.more I R a c k e n=.ok e n
 | 0=>rfl
 | _+1=>by simp [Ps.more,h]
theorem zAd {I:Inp} {R:Nat→Res Ex} {a c:Int} {n:Nat} {e:Ex} (h:btw a c (I.pk n).text≠0) (k:Nat):Ps.more I R a c (k+1) e n=(R (n+1)).bind fun r n1=>Ps.more I R a c k (.mk 5 (btw a c (I.pk n).text) 0 ⟨#[]⟩ [] [e,r]) n1:=by simp [Ps.more,h]
theorem betweenI {w:World} {b g cap:Nat} {I:Inp} {nx op:Nat} (h:Rd w b g cap I.L I.len nx op) (a c:Int) :
  Calls Tryz.prog 113 #[.pointer (some ⟨b,0,none⟩),.int .i64 a,.int .i64 c] w fun e w'=>e=.returned (.int .i64 (btw a c (I.pk nx).text))∧Below w.heap.size w w':=zAR h a c
theorem jR {F b g cap:Nat} {I:Inp} {op nx:Nat} {R:Nat→Res Ex} {a c:Int} (HR:Does F b g cap I op exV R) (hent:∀ args w,(callFunc F args).run Tryz.prog w=.ok (.enter F args) w) {w:World} (h:Rd w b g cap I.L I.len nx op) (hG:GlobB b w) :
  Calls Tryz.prog 111 #[.pointer (some ⟨b,0,none⟩),.int .i64 a,.int .i64 c,.func (.func F) #[.pointer (some ⟨b,0,none⟩)] #[]] w (Post b g cap I op exV nx w (Ps.fromLeft I R a c nx)):=by
 have hb:=h.bb;have hg:=h.gb;go_enter Tryz.func111,Tryz.ntmps111;go_wp2_with fail;refine (HR _ _ (h.alloc _) (hG.alloc _)).mono ?_;rintro e w1 ⟨a1,hres⟩;have z1:w.heap.size+1≤w1.heap.size:=(by simpa using a1.size);have hA1:=a1.keep (zF w _) (by simp) (by simp;omega);have A1:=((Aside.refl (S:=[b]) (B:=w.heap.size) w).alloc nR _).trans a1 (by simp);clear a1
 cases ht:R nx with
 | err c0 a0=>
  rw [ht] at hres;obtain rfl:e=_:=hres;exact ⟨rfl,Post.fail (by unfold Ps.fromLeft;rw [ht];rfl) A1⟩
 | ok e0 n1=>
  rw [ht] at hres;obtain ⟨le1,h1,_,rfl,x0,rfl,he1⟩:=hres;have hmod:Hid (Ps.fromLeft I R a c nx=Ps.more I R a c (I.L.length-n1) e0 n1):=by
   show Ps.fromLeft I R a c nx=_
   unfold Ps.fromLeft;rw [ht];rfl
  clear ht;go_wp2;go_loopg [10] (I.L.length-n1) (fun k v wr=>∃ (n:Nat) (y:ExV) (e:Ex),I.L.length≤n+k∧nx≤n∧HEx (fun i=>w.heap.size<i∧i≠w1.heap.size) wr y.cells e∧Rd wr b g cap I.L I.len n op∧Aside [b] w.heap.size w wr ∧
    wr.heap[w.heap.size]?=some Zb ∧
    wr.heap[w1.heap.size]?=some (.cells (exC y) 45 (0,0))∧Hid (Ps.fromLeft I R a c nx=Ps.more I R a c k e n))
  case atStart=>exact ⟨n1,x0,e0,by omega,le1,(he1.wide (ok':=fun i=>w.heap.size<i∧i≠w1.heap.size) (fun i hi hl=>⟨by simp at hi;omega,by omega⟩)).under ((Below.refl _ w1).alloc nR _),h1.alloc _,A1.alloc (by omega) _,kA hA1 _,zF _ _,hmod⟩
  case round=>
   clear hmod A1 hA1 h1 he1;obtain ⟨n,y,e,hn,hle,he,hrd,has,hA,hB,hmod⟩:=hrel;have zA:=zC hA;have zB:=zC hB;go_wp2_with fail;refine (betweenI hrd a c).mono ?_;rintro r w2 ⟨rfl,b2⟩;obtain ⟨kk,hkk⟩:=nm (btw a c (I.pk n).text);rw [←hkk];have HK:=zD hkk;have z2:=b2.size;have hA2:=(aside b2 (S:=[])).keep hA (zC hA) (by simp);have hB2:=(aside b2 (S:=[])).keep hB (zC hB) (by simp);have he2:=he.under b2;have h2:=hrd.below b2;have A2:=has.trans (aside b2) has.size;clear hkk hA hB he hrd has b2;by_cases hz:kk=0
   ·have hst:=zAc (R:=R) (e:=e) (HK.out.symm.trans hz) gk
    have HST:=zD hst;clear hst;subst hz;obtain ⟨cb0,cb1,cb2,cb3,cb4,cb5⟩:=zH hB2;have fa:=fun o=>fo hA2 o;obtain ⟨ca0,ca1,ca2,ca3,ca4,ca5⟩:=zH hA2;go_wp2;refine bodyPost_ret (v:=.agg #[.int .i64 y.op,.int .i64 y.k,.int .i64 y.n,.string y.name,.slice y.aS y.nS y.cS,.slice y.aL y.nL y.cL]) (by simp [results,Tryz.results111,go_sem,ca0,ca1,ca2,ca3,ca4,ca5]) rfl ?_;exact Post.good (by rw [hmod.out,HST.out]) (A2.put6 (k:=w.heap.size) nR y) hle (h2.put6 (k:=w.heap.size) (by omega) (by omega) y) ⟨y,rfl,(he2.put6 (k:=w.heap.size) (by simp) y).wide (fun i hi _=>Nat.le_of_lt hi.1)⟩
   ·have hkf:(kk==0)=false:=beq_eq_false_iff_ne.2 hz
    have hlt:n<I.L.length:=zBj (a:=a) (c:=c) (by rw [←HK.out];exact hz);obtain ⟨f,rfl⟩:∃ f,gk=f+1:=⟨gk-1,by omega⟩;have hst:=zD (hmod.out.trans (zAd (R:=R) (e:=e) (a:=a) (c:=c) (n:=n) (by rw [←HK.out];exact hz) f));rw [←HK.out] at hst;clear hmod;go_wp2_with fail;refine (qS h2 hlt).mono ?_;rintro r w3 ⟨rfl,h3,a3⟩;have hA3:=a3.keep hA2 (zC hA2) (by simp;omega);have hB3:=a3.keep hB2 (zC hB2) (by simp;omega);have he3:=he2.past a3 (fun i hi=>by simp;omega);have A3:=A2.trans a3 (by omega);have z3:=a3.size;clear hA2 hB2 he2 h2 A2 a3;go_wp2_with fail;have hd3:Rd w3.drew b g cap I.L I.len (n+1) op:=h3.drew;have hA4:w3.drew.heap[w.heap.size]?=some Zb:=hA3;have hB4:w3.drew.heap[w1.heap.size]?=some (.cells (exC y) 45 (0,0)):=hB3;have he4:HEx (fun i=>w.heap.size<i∧i≠w1.heap.size) w3.drew y.cells e:=he3.under (Below.refl _ w3).drew;have A4:=A3.drew;have z4:w3.drew.heap.size=w3.heap.size:=rfl;refine zL (fun w'=>w'.cell? ⟨w1.heap.size,0,none⟩=some (.int .i64 y.op)∧w'.cell? ⟨w1.heap.size,1,none⟩=some (.int .i64 y.k)∧w'.cell? ⟨w1.heap.size,2,none⟩=some (.int .i64 y.n)∧w'.cell? ⟨w1.heap.size,3,none⟩=some (.string y.name)∧w'.cell? ⟨w1.heap.size,4,none⟩=some (.slice y.aS y.nS y.cS)∧w'.cell? ⟨w1.heap.size,5,none⟩=some (.slice y.aL y.nL y.cL)) (fun j=>decide (j=5)) (by kernel_rfl) ?_;generalize w3.drew=wd at hd3 hA4 hB4 he4 A4 z4 ⊢;clear h3 hA3 hB3 he3 A3;obtain ⟨cb0,cb1,cb2,cb3,cb4,cb5⟩:=zH hB4;have hH:=And.intro cb0 (And.intro cb1 (And.intro cb2 (And.intro cb3 (And.intro cb4 cb5))));refine' zE (i:=0) (v:=_) rfl (by kernel_rfl) (by kernel_rfl) (by kernel_rfl) (by kernel_rfl) (fun _ _ _ h=>h) hH (by rfl) ?hyv ?o1
    case hyv=>
     intro wz hSw;obtain ⟨c0,c1,c2,c3,c4,c5⟩:=hSw;go_simp
     try rfl
    try simp only [Act.put,sT,sZ,sS]
    refine' zE (i:=1) (v:=_) rfl (by kernel_rfl) (by kernel_rfl) (by kernel_rfl) (by kernel_rfl) (fun _ _ _ h=>h) hH (by rfl) ?hyv ?o2
    case hyv=>
     intro wz hSw;obtain ⟨c0,c1,c2,c3,c4,c5⟩:=hSw;go_simp
     try rfl
    try simp only [Act.put,sT,sZ,sS]
    refine' zE (i:=2) (v:=_) rfl (by kernel_rfl) (by kernel_rfl) (by kernel_rfl) (by kernel_rfl) (fun _ _ _ h=>h) hH (by rfl) ?hyv ?o3
    case hyv=>
     intro wz hSw;obtain ⟨c0,c1,c2,c3,c4,c5⟩:=hSw;go_simp
     try rfl
    try simp only [Act.put,sT,sZ,sS]
    refine zG (i:=3) rfl (by kernel_rfl) (by rfl) (fun K hK=>?_);go_simp;refine (HR _ _ hd3 (hG.far A4)).mono ?_;rintro r w5 ⟨a5,hres⟩;have A5:=A4.trans a5 A4.size;have z5:=a5.size;have hA5:=a5.keep hA4 (by omega) (by simp;omega);have hB5:=a5.keep hB4 (by omega) (by simp;omega);have he5:=he4.past a5 (fun i hi=>by simp;omega);clear hA4 hB4 he4 A4 a5 hd3 hH cb0 cb1 cb2 cb3 cb4 cb5
    cases ht:R (n+1) with
    | err c0 a0=>
     rw [ht] at hres;obtain rfl:r=_:=hres;exact ⟨rfl,Post.fail (by rw [hst.out,ht];rfl) A5⟩
    | ok e6 n6=>
     rw [ht] at hres;obtain ⟨le5,h5,_,rfl,x6,rfl,he6⟩:=hres;have hmod:Hid (Ps.fromLeft I R a c nx=Ps.more I R a c f (.mk 5 kk 0 ⟨#[]⟩ [] [e,e6]) n6):=by
      show Ps.fromLeft I R a c nx=_
      rw [hst.out,ht];rfl
     clear hst ht;have he7:=he6.wide (ok':=fun i=>w.heap.size<i∧i≠w1.heap.size) (fun i hi _=>by omega);obtain ⟨cb0,cb1,cb2,cb3,cb4,cb5⟩:=zH hB5;have hH:=And.intro cb0 (And.intro cb1 (And.intro cb2 (And.intro cb3 (And.intro cb4 cb5))));refine hK.out _ _ (fun _=>hH) ?_;clear hK K
     try simp only [Act.put,sT,sZ,sS]
     refine zG (i:=4) rfl (by kernel_rfl) (by rfl) (fun K hK=>?_);go_simp;refine (zDg kk he5 he7 (fun i hi=>by omega)).mono ?_;rintro r w8 ⟨z,rfl,hez,b8⟩;have z8:=b8.size;have A8:=A5.trans (aside b8) A5.size;have hA8:=(aside b8 (S:=[])).keep hA5 (zC hA5) (by simp);have hB8:=(aside b8 (S:=[])).keep hB5 (zC hB5) (by simp);have h8:=h5.below b8;clear hA5 hB5 he5 he6 he7 A5 b8 h5 hH cb0 cb1 cb2 cb3 cb4 cb5;obtain ⟨cb0,cb1,cb2,cb3,cb4,cb5⟩:=zH hB8;have hH:=And.intro cb0 (And.intro cb1 (And.intro cb2 (And.intro cb3 (And.intro cb4 cb5))));have fB:=fun o=>fo hB8 o;refine hK.out _ _ (fun _=>hH) ?_;clear hK K
     try simp only [Act.put,sT,sZ,sS]
     refine zG (i:=5) rfl (by kernel_rfl) (by rfl) (fun K hK=>?_);go_simp;refine hK.out _ _ (fun h=>by cases h) ?_;clear hK K
     try simp only [Act.put,sT,sZ,sS]
     refine zR (by kernel_rfl) ?_ _;go_wp2_with fail;go_roundg f
     case measure=>omega
     case rel=>exact ⟨n6,z,_,by omega,by omega,hez.put6 (k:=w1.heap.size) (by simp) z,h8.put6 (k:=w1.heap.size) (by omega) (by omega) z,A8.put6 (k:=w1.heap.size) (by omega) z,keep6 hA8 (by omega) z,zAO hB8 z,hmod⟩
end Go.Proofs.YthkpanbgkimhoaaGreatDoor
namespace Go.Proofs.YthkpanbgkimhoaaGreatDoor
open Go.RowKit Go.IntWalk
variable {b g cap:Nat} {ao:Option Addr} {I:Inp}
def XOut (w':World) (b g cap:Nat) (ao:Option Addr) (I:Inp) (pt:Int) (r:Res Ex) (x:Ex):Prop :=
 match r with
 | .ok v m=>v=x∧Rr w' b g cap ao I m 0 0 (pt+(Ps.count x:Int))
 | .err c a=>4≤c∧∃ n pt',Rr w' b g cap ao I n ((c:Nat):Int) ((a:Nat):Int) pt'
def XPost (w:World) (b g cap:Nat) (ao:Option Addr) (I:Inp) (pt:Int) (r:Res Ex) (e:Ending) (w':World):Prop :=
 ∃ y x,e=.returned (exA y)∧HEx (fun i=>w.heap.size≤i) w' y.cells x∧Aside [b] w.heap.size w w'∧XOut w' b g cap ao I pt r x
def Few (I:Inp) (nx:Nat) (pt:Int):Prop:=0≤pt∧pt+(I.L.length:Int)≤1099511627776+(nx:Int)
def XDoes (F:Nat) (args:List Value) (b g cap:Nat) (ao:Option Addr) (I:Inp) (R:Nat→Res Ex):Prop :=
 ∀ (nx:Nat) (pt:Int) (w:World),Rr w b g cap ao I nx 0 0 pt→g<w.heap.size→Few I nx pt→Calls Tryz.prog F (.pointer (some ⟨b,0,none⟩) :: args).toArray w (XPost w b g cap ao I pt (R nx))
def XBad (F:Nat) (args:List Value) (b g cap:Nat) (ao:Option Addr) (I:Inp):Prop :=
 ∀ (nx:Nat) (fc fa pt:Int) (w:World),Rr w b g cap ao I nx fc fa pt→fc≠0→Calls Tryz.prog F (.pointer (some ⟨b,0,none⟩) :: args).toArray w fun e w'=>∃ y x,e=.returned (exA y)∧HEx (fun i=>w.heap.size≤i) w' y.cells x∧Below w.heap.size w w'
def tab0 (w:World):Obj:=.cells #[.int .i64 0,.int .i64 0,.int .i64 0,.string ⟨#[]⟩,.slice none 0 0,.slice none 0 0] 45 (0,0)
def tab1 (w:World):Obj:=.cells #[.string ⟨#[111,114]⟩,.string ⟨#[120,111,114]⟩] 9 (0,0)
def tab2 (w:World):Obj:=.cells #[.string ⟨#[97,110,100]⟩] 9 (0,0)
def tab3 (w:World):Obj:=.cells #[.string ⟨#[60]⟩,.string ⟨#[61,61]⟩] 9 (0,0)
def tab4 (w:World):Obj:=.cells #[.string ⟨#[43]⟩,.string ⟨#[45]⟩] 9 (0,0)
def tab5 (w:World):Obj:=.cells #[.string ⟨#[42]⟩,.string ⟨#[47]⟩,.string ⟨#[37]⟩] 9 (0,0)
def tab6 (w:World):Obj:=.cells #[.slice (some ⟨w.heap.size+1,0,none⟩) 2 2,.slice (some ⟨w.heap.size+1+1,0,none⟩) 1 1,.slice (some ⟨w.heap.size+1+1+1,0,none⟩) 2 2,.slice (some ⟨w.heap.size+1+1+1+1,0,none⟩) 2 2,.slice (some ⟨w.heap.size+1+1+1+1+1,0,none⟩) 3 3] 35 (0,0)
def tab7 (w:World):Obj:=.cells #[.int .i64 11,.int .i64 12] 3 (0,0)
def tab8 (w:World):Obj:=.cells #[.int .i64 10] 3 (0,0)
def tab9 (w:World):Obj:=.cells #[.int .i64 8,.int .i64 9] 3 (0,0)
def tab10 (w:World):Obj:=.cells #[.int .i64 1,.int .i64 2] 3 (0,0)
def tab11 (w:World):Obj:=.cells #[.int .i64 3,.int .i64 4,.int .i64 5] 3 (0,0)
def tab12 (w:World):Obj:=.cells #[.slice (some ⟨w.heap.size+1+1+1+1+1+1+1,0,none⟩) 2 2,.slice (some ⟨w.heap.size+1+1+1+1+1+1+1+1,0,none⟩) 1 1,.slice (some ⟨w.heap.size+1+1+1+1+1+1+1+1+1,0,none⟩) 2 2,.slice (some ⟨w.heap.size+1+1+1+1+1+1+1+1+1+1,0,none⟩) 2 2,.slice (some ⟨w.heap.size+1+1+1+1+1+1+1+1+1+1+1,0,none⟩) 3 3] 124 (0,0)
def tabW (w:World):World:=(((((((((((((w.alloc (tab0 w)).alloc (tab1 w)).alloc (tab2 w)).alloc (tab3 w)).alloc (tab4 w)).alloc (tab5 w)).alloc (tab6 w)).alloc (tab7 w)).alloc (tab8 w)).alloc (tab9 w)).alloc (tab10 w)).alloc (tab11 w)).alloc (tab12 w))
theorem qE (w:World):(tabW w).heap.size=w.heap.size+1+1+1+1+1+1+1+1+1+1+1+1+1:=by unfold tabW;simp
theorem xX (w:World):Below w.heap.size w (tabW w):=by
 unfold tabW;exact (((((((((((((Below.refl _ w).alloc (by simp;try omega) _).alloc (by simp;try omega) _).alloc (by simp;try omega) _).alloc (by simp;try omega) _).alloc (by simp;try omega) _).alloc (by simp;try omega) _).alloc (by simp;try omega) _).alloc (by simp;try omega) _).alloc (by simp;try omega) _).alloc (by simp;try omega) _).alloc (by simp;try omega) _).alloc (by simp;try omega) _).alloc (by simp;try omega) _
theorem qT (w:World):(tabW w).heap[w.heap.size]?=some (tab0 w):=by
 have h:=zF w (tab0 w);rw [show w.heap.size=w.heap.size by simp] at h;unfold tabW;exact kA (kA (kA (kA (kA (kA (kA (kA (kA (kA (kA (kA (h) _) _) _) _) _) _) _) _) _) _) _) _
theorem tabW_at1 (w:World):(tabW w).heap[w.heap.size+1]?=some (tab1 w):=by
 have h:=zF (w.alloc (tab0 w)) (tab1 w);rw [show (w.alloc (tab0 w)).heap.size=w.heap.size+1 by simp] at h;unfold tabW;exact kA (kA (kA (kA (kA (kA (kA (kA (kA (kA (kA (h) _) _) _) _) _) _) _) _) _) _) _
theorem tabW_at2 (w:World):(tabW w).heap[w.heap.size+1+1]?=some (tab2 w):=by
 have h:=zF ((w.alloc (tab0 w)).alloc (tab1 w)) (tab2 w);rw [show ((w.alloc (tab0 w)).alloc (tab1 w)).heap.size=w.heap.size+1+1 by simp] at h;unfold tabW;exact kA (kA (kA (kA (kA (kA (kA (kA (kA (kA (h) _) _) _) _) _) _) _) _) _) _
theorem tabW_at3 (w:World):(tabW w).heap[w.heap.size+1+1+1]?=some (tab3 w):=by
 have h:=zF (((w.alloc (tab0 w)).alloc (tab1 w)).alloc (tab2 w)) (tab3 w);rw [show (((w.alloc (tab0 w)).alloc (tab1 w)).alloc (tab2 w)).heap.size=w.heap.size+1+1+1 by simp] at h;unfold tabW;exact kA (kA (kA (kA (kA (kA (kA (kA (kA (h) _) _) _) _) _) _) _) _) _
theorem tabW_at4 (w:World):(tabW w).heap[w.heap.size+1+1+1+1]?=some (tab4 w):=by
 have h:=zF ((((w.alloc (tab0 w)).alloc (tab1 w)).alloc (tab2 w)).alloc (tab3 w)) (tab4 w);rw [show ((((w.alloc (tab0 w)).alloc (tab1 w)).alloc (tab2 w)).alloc (tab3 w)).heap.size=w.heap.size+1+1+1+1 by simp] at h;unfold tabW;exact kA (kA (kA (kA (kA (kA (kA (kA (h) _) _) _) _) _) _) _) _
theorem tabW_at5 (w:World):(tabW w).heap[w.heap.size+1+1+1+1+1]?=some (tab5 w):=by
 have h:=zF (((((w.alloc (tab0 w)).alloc (tab1 w)).alloc (tab2 w)).alloc (tab3 w)).alloc (tab4 w)) (tab5 w);rw [show (((((w.alloc (tab0 w)).alloc (tab1 w)).alloc (tab2 w)).alloc (tab3 w)).alloc (tab4 w)).heap.size=w.heap.size+1+1+1+1+1 by simp] at h;unfold tabW;exact kA (kA (kA (kA (kA (kA (kA (h) _) _) _) _) _) _) _
theorem zBE (w:World):(tabW w).heap[w.heap.size+1+1+1+1+1+1]?=some (tab6 w):=by
 have h:=zF ((((((w.alloc (tab0 w)).alloc (tab1 w)).alloc (tab2 w)).alloc (tab3 w)).alloc (tab4 w)).alloc (tab5 w)) (tab6 w);rw [show ((((((w.alloc (tab0 w)).alloc (tab1 w)).alloc (tab2 w)).alloc (tab3 w)).alloc (tab4 w)).alloc (tab5 w)).heap.size=w.heap.size+1+1+1+1+1+1 by simp] at h;unfold tabW;exact kA (kA (kA (kA (kA (kA (h) _) _) _) _) _) _
theorem tabW_at7 (w:World):(tabW w).heap[w.heap.size+1+1+1+1+1+1+1]?=some (tab7 w):=by
 have h:=zF (((((((w.alloc (tab0 w)).alloc (tab1 w)).alloc (tab2 w)).alloc (tab3 w)).alloc (tab4 w)).alloc (tab5 w)).alloc (tab6 w)) (tab7 w);rw [show (((((((w.alloc (tab0 w)).alloc (tab1 w)).alloc (tab2 w)).alloc (tab3 w)).alloc (tab4 w)).alloc (tab5 w)).alloc (tab6 w)).heap.size=w.heap.size+1+1+1+1+1+1+1 by simp] at h;unfold tabW;exact kA (kA (kA (kA (kA (h) _) _) _) _) _
theorem tabW_at8 (w:World):(tabW w).heap[w.heap.size+1+1+1+1+1+1+1+1]?=some (tab8 w):=by
 have h:=zF ((((((((w.alloc (tab0 w)).alloc (tab1 w)).alloc (tab2 w)).alloc (tab3 w)).alloc (tab4 w)).alloc (tab5 w)).alloc (tab6 w)).alloc (tab7 w)) (tab8 w);rw [show ((((((((w.alloc (tab0 w)).alloc (tab1 w)).alloc (tab2 w)).alloc (tab3 w)).alloc (tab4 w)).alloc (tab5 w)).alloc (tab6 w)).alloc (tab7 w)).heap.size=w.heap.size+1+1+1+1+1+1+1+1 by simp] at h;unfold tabW;exact kA (kA (kA (kA (h) _) _) _) _
theorem tabW_at9 (w:World):(tabW w).heap[w.heap.size+1+1+1+1+1+1+1+1+1]?=some (tab9 w):=by
 have h:=zF (((((((((w.alloc (tab0 w)).alloc (tab1 w)).alloc (tab2 w)).alloc (tab3 w)).alloc (tab4 w)).alloc (tab5 w)).alloc (tab6 w)).alloc (tab7 w)).alloc (tab8 w)) (tab9 w);rw [show (((((((((w.alloc (tab0 w)).alloc (tab1 w)).alloc (tab2 w)).alloc (tab3 w)).alloc (tab4 w)).alloc (tab5 w)).alloc (tab6 w)).alloc (tab7 w)).alloc (tab8 w)).heap.size=w.heap.size+1+1+1+1+1+1+1+1+1 by simp] at h;unfold tabW;exact kA (kA (kA (h) _) _) _
theorem tabW_at10 (w:World):(tabW w).heap[w.heap.size+1+1+1+1+1+1+1+1+1+1]?=some (tab10 w):=by
 have h:=zF ((((((((((w.alloc (tab0 w)).alloc (tab1 w)).alloc (tab2 w)).alloc (tab3 w)).alloc (tab4 w)).alloc (tab5 w)).alloc (tab6 w)).alloc (tab7 w)).alloc (tab8 w)).alloc (tab9 w)) (tab10 w);rw [show ((((((((((w.alloc (tab0 w)).alloc (tab1 w)).alloc (tab2 w)).alloc (tab3 w)).alloc (tab4 w)).alloc (tab5 w)).alloc (tab6 w)).alloc (tab7 w)).alloc (tab8 w)).alloc (tab9 w)).heap.size=w.heap.size+1+1+1+1+1+1+1+1+1+1 by simp] at h;unfold tabW;exact kA (kA (h) _) _
theorem tabW_at11 (w:World):(tabW w).heap[w.heap.size+1+1+1+1+1+1+1+1+1+1+1]?=some (tab11 w):=by
 have h:=zF (((((((((((w.alloc (tab0 w)).alloc (tab1 w)).alloc (tab2 w)).alloc (tab3 w)).alloc (tab4 w)).alloc (tab5 w)).alloc (tab6 w)).alloc (tab7 w)).alloc (tab8 w)).alloc (tab9 w)).alloc (tab10 w)) (tab11 w);rw [show (((((((((((w.alloc (tab0 w)).alloc (tab1 w)).alloc (tab2 w)).alloc (tab3 w)).alloc (tab4 w)).alloc (tab5 w)).alloc (tab6 w)).alloc (tab7 w)).alloc (tab8 w)).alloc (tab9 w)).alloc (tab10 w)).heap.size=w.heap.size+1+1+1+1+1+1+1+1+1+1+1 by simp] at h;unfold tabW;exact kA (h) _
theorem zAZ (w:World):(tabW w).heap[w.heap.size+1+1+1+1+1+1+1+1+1+1+1+1]?=some (tab12 w):=by
 have h:=zF ((((((((((((w.alloc (tab0 w)).alloc (tab1 w)).alloc (tab2 w)).alloc (tab3 w)).alloc (tab4 w)).alloc (tab5 w)).alloc (tab6 w)).alloc (tab7 w)).alloc (tab8 w)).alloc (tab9 w)).alloc (tab10 w)).alloc (tab11 w)) (tab12 w);rw [show ((((((((((((w.alloc (tab0 w)).alloc (tab1 w)).alloc (tab2 w)).alloc (tab3 w)).alloc (tab4 w)).alloc (tab5 w)).alloc (tab6 w)).alloc (tab7 w)).alloc (tab8 w)).alloc (tab9 w)).alloc (tab10 w)).alloc (tab11 w)).heap.size=w.heap.size+1+1+1+1+1+1+1+1+1+1+1+1 by simp] at h;unfold tabW;exact h
theorem zAm (B:Nat) (w:World):HEx (fun i=>B≤i) w (ExV.cells ⟨0,0,0,⟨#[]⟩,none,0,0,none,0,0⟩) (.mk 0 0 0 ⟨#[]⟩ [] []) :=
 HEx.mk (C:=fun _=>[]) ⟨fun _=>[],Sl.nil,fun i h=>absurd h (Nat.not_lt_zero _)⟩ Sl.nil (fun i h=>absurd h (Nat.not_lt_zero _))
theorem zDA {op:Nat} (hA:XBad 96 [.int .i64 (op:Int)] b g cap ao I):XBad 87 [.int .i64 5,.int .i64 (op:Int)] b g cap ao I:=by
 intro nx fc fa pt w h hf
 show Calls Tryz.prog 87 #[.pointer (some ⟨b,0,none⟩),.int .i64 5,.int .i64 (op:Int)] w _
 have bT:=xX w;have zT:=qE w;have K0:=qT w;have hW:tabW w=_:=rfl;unfold tabW at hW;go_enter Tryz.func87,Tryz.ntmps87;go_wp2_with fail;obtain ⟨W,hWW⟩:=nm (tabW w);rw [←hWW] at bT zT K0;have hcall:=hA nx fc fa pt W (h.past bT) hf;rw [hWW] at hcall;refine Calls.mono hcall ?_;rintro e w1 ⟨y,x,rfl,hx,b1⟩;rw [←hWW] at hx b1;have K1:=(b1.block _ (by rw [zT];omega)).trans K0;have B1:=bT.trans (b1.mono bT.size);unfold tab0 at K1;have fa:=fun o=>fo K1 o;obtain ⟨ca0,ca1,ca2,ca3,ca4,ca5⟩:=zH K1;have HZ:=zD zT;clear hW hWW hcall K0 bT zT K1 b1;unfold exA;go_wp2;have zT:=HZ.out;exact bodyPost_ret (v:=exA y) (by simp [exA,results,Tryz.results87,go_sem,ca0,ca1,ca2,ca3,ca4,ca5]) rfl ⟨y,x,rfl,(hx.put6 (k:=w.heap.size) (by rw [zT];omega) y).wide (fun i hi _=>by rw [zT] at hi;omega),((((((B1.setCell (p:=⟨w.heap.size,0,none⟩) nR _).setCell (p:=⟨w.heap.size,1,none⟩) nR _).setCell (p:=⟨w.heap.size,2,none⟩) nR _).setCell (p:=⟨w.heap.size,3,none⟩) nR _).setCell (p:=⟨w.heap.size,4,none⟩) nR _).setCell (p:=⟨w.heap.size,5,none⟩) nR _)⟩
theorem Rr.put6 {w:World} {nx:Nat} {fc fa pt:Int} (h:Rr w b g cap ao I nx fc fa pt) {k:Nat} (hb:k≠b) (hg:k≠g) (y:ExV):Rr (put6 w k y) b g cap ao I nx fc fa pt :=
 ⟨(vT _ _ _ _ (fun e=>hb e.symm)).trans h.here,fun h0=>⟨(h.toks h0).1,by rw [jU];exact (h.toks h0).2.1,(h.toks h0).2.2.keep (vT _ _ _ _ (fun e=>hg e.symm))⟩,h.apart,h.le,h.lc,h.cm⟩
theorem XOut.put6 {w':World} {pt:Int} {r:Res Ex} {x:Ex} (h:XOut w' b g cap ao I pt r x) {k:Nat} (hb:k≠b) (hg:k≠g) (y:ExV):XOut (put6 w' k y) b g cap ao I pt r x:=by
 cases r with
 | ok v m=>exact ⟨h.1,h.2.put6 hb hg y⟩
 | err c a=>
  obtain ⟨h1,n,p,h2⟩:=h;exact ⟨h1,n,p,h2.put6 hb hg y⟩
theorem level5_any {op:Nat} {R:Nat→Res Ex} (hA:XDoes 96 [.int .i64 (op:Int)] b g cap ao I R):XDoes 87 [.int .i64 5,.int .i64 (op:Int)] b g cap ao I R:=by
 intro nx pt w h hgb hfew
 show Calls Tryz.prog 87 #[.pointer (some ⟨b,0,none⟩),.int .i64 5,.int .i64 (op:Int)] w _
 have hbb:=h.cells.2.2.2.2.2.2;have bT:=xX w;have zT:=qE w;have K0:=qT w;have hW:tabW w=_:=rfl;unfold tabW at hW;go_enter Tryz.func87,Tryz.ntmps87;go_wp2_with fail;obtain ⟨W,hWW⟩:=nm (tabW w);rw [←hWW] at bT zT K0;have hcall:=hA nx pt W (h.past bT) (by omega) hfew;rw [hWW] at hcall;refine Calls.mono hcall ?_;rintro e w1 ⟨y,x,rfl,hx,a1,hout⟩;rw [←hWW] at hx a1;have K1:=a1.keep K0 (by rw [zT];omega) (by simp;omega);have A1:=(aside bT (S:=[b])).trans a1 bT.size;unfold tab0 at K1;have fa:=fun o=>fo K1 o;obtain ⟨ca0,ca1,ca2,ca3,ca4,ca5⟩:=zH K1;have HZ:=zD zT;clear hW hWW hcall K0 bT zT K1 a1;unfold exA;go_wp2;have zT:=HZ.out;exact bodyPost_ret (v:=exA y) (by simp [exA,results,Tryz.results87,go_sem,ca0,ca1,ca2,ca3,ca4,ca5]) rfl ⟨y,x,rfl,(hx.put6 (k:=w.heap.size) (by rw [zT];omega) y).wide (fun i hi _=>by rw [zT] at hi;omega),A1.put6 (k:=w.heap.size) nR y,hout.put6 (k:=w.heap.size) (by omega) (by omega) y⟩
end Go.Proofs.YthkpanbgkimhoaaGreatDoor
namespace Go.Proofs.YthkpanbgkimhoaaGreatDoor
open Go.RowKit Go.IntWalk
variable {b g cap:Nat} {ao:Option Addr} {I:Inp}
theorem level0_bad {op:Nat} (hA:XBad 87 [.int .i64 1,.int .i64 (op:Int)] b g cap ao I):XBad 87 [.int .i64 0,.int .i64 (op:Int)] b g cap ao I:=by
 intro nx fc fa pt w h hf
 show Calls Tryz.prog 87 #[.pointer (some ⟨b,0,none⟩),.int .i64 0,.int .i64 (op:Int)] w _
 have bT:=xX w;have zT:=qE w;have K0:=qT w;have hW:tabW w=_:=rfl;unfold tabW at hW;go_enter Tryz.func87,Tryz.ntmps87;go_wp2_with fail;obtain ⟨W,hWW⟩:=nm (tabW w);rw [←hWW] at bT zT K0;have h0:=h.past bT;have hcall:=hA nx fc fa pt W h0 hf;rw [hWW] at hcall;refine Calls.mono hcall ?_;rintro e w1 ⟨y,x,rfl,hx,b1⟩;rw [←hWW] at hx b1;have K1:=(b1.block _ (by rw [zT];omega)).trans K0;have B1:=bT.trans (b1.mono bT.size);have h1:=h0.past b1;have y1:=b1.size;unfold tab0 at K1;have HZ:=zD zT;have HY:=zD y1;clear hW hWW hcall K0 bT zT b1 y1;unfold exA;obtain ⟨w2,hw2⟩:=nm (w1.alloc (.cells (exC y) 45 (0,0)));have b2:=xA hw2;have J2:=xE hw2;have h2:=h1.past b2;have K2:=(b2.block _ (zC K1)).trans K1;have hx2:=hx.keep (w':=w2) b2.size (fun k _ hl=>b2.block k hl);have B2:=B1.trans (b2.mono B1.size);go_wp2_with fail;rw [←hw2];clear hw2 b2 h1 K1 hx B1;go_loopg [10,11] 0 (fun k v u wr=>Below w2.heap.size w2 wr)
 case atStart=>exact Below.refl _ _
 case round=>
  have hr:=h2.past hrel;go_wp2_with fail;refine (zU hr).mono ?_;rintro e w3 ⟨rfl,b3⟩;have bb:=hrel.trans (b3.mono hrel.size);have K3:=(bb.block _ (zC K2)).trans K2;have J3:=(bb.block _ (zC J2)).trans J2;have hx3:=hx2.keep (w':=w3) bb.size (fun k _ hl=>bb.block k hl);have B3:=B2.trans (bb.mono B2.size);have hfb:(fc==0)=false:=beq_eq_false_iff_ne.2 hf;have hfn:(!(fc != 0))=false:=(by rw [bne,hfb];rfl);have fa:=fun o=>fo K3 o;have ca0:=co K3 0;have ca1:=co K3 1;have ca2:=co K3 2;have ca3:=co K3 3;have ca4:=co K3 4;have ca5:=co K3 5;have cb0:=co J3 0;have cb1:=co J3 1;have cb2:=co J3 2;have cb3:=co J3 3;have cb4:=co J3 4;have cb5:=co J3 5;simp only [gT,gZ,gS] at ca0 ca1 ca2 ca3 ca4 ca5 cb0 cb1 cb2 cb3 cb4 cb5;clear K2 J2 hx2 B2 h2 hr bb b3 hrel;go_wp2;have zT:=HZ.out;exact bodyPost_ret (v:=exA y) (by simp [exA,results,Tryz.results87,go_sem,ca0,ca1,ca2,ca3,ca4,ca5]) rfl ⟨y,x,rfl,(hx3.put6 (k:=w.heap.size) (by rw [zT];omega) y).wide (fun i hi _=>by rw [zT] at hi;omega),((((((B3.setCell (p:=⟨w.heap.size,0,none⟩) nR _).setCell (p:=⟨w.heap.size,1,none⟩) nR _).setCell (p:=⟨w.heap.size,2,none⟩) nR _).setCell (p:=⟨w.heap.size,3,none⟩) nR _).setCell (p:=⟨w.heap.size,4,none⟩) nR _).setCell (p:=⟨w.heap.size,5,none⟩) nR _)⟩
theorem zDH {op:Nat} (hA:XBad 87 [.int .i64 2,.int .i64 (op:Int)] b g cap ao I):XBad 87 [.int .i64 1,.int .i64 (op:Int)] b g cap ao I:=by
 intro nx fc fa pt w h hf
 show Calls Tryz.prog 87 #[.pointer (some ⟨b,0,none⟩),.int .i64 1,.int .i64 (op:Int)] w _
 have bT:=xX w;have zT:=qE w;have K0:=qT w;have hW:tabW w=_:=rfl;unfold tabW at hW;go_enter Tryz.func87,Tryz.ntmps87;go_wp2_with fail;obtain ⟨W,hWW⟩:=nm (tabW w);rw [←hWW] at bT zT K0;have h0:=h.past bT;have hcall:=hA nx fc fa pt W h0 hf;rw [hWW] at hcall;refine Calls.mono hcall ?_;rintro e w1 ⟨y,x,rfl,hx,b1⟩;rw [←hWW] at hx b1;have K1:=(b1.block _ (by rw [zT];omega)).trans K0;have B1:=bT.trans (b1.mono bT.size);have h1:=h0.past b1;have y1:=b1.size;unfold tab0 at K1;have HZ:=zD zT;have HY:=zD y1;clear hW hWW hcall K0 bT zT b1 y1;unfold exA;obtain ⟨w2,hw2⟩:=nm (w1.alloc (.cells (exC y) 45 (0,0)));have b2:=xA hw2;have J2:=xE hw2;have h2:=h1.past b2;have K2:=(b2.block _ (zC K1)).trans K1;have hx2:=hx.keep (w':=w2) b2.size (fun k _ hl=>b2.block k hl);have B2:=B1.trans (b2.mono B1.size);go_wp2_with fail;rw [←hw2];clear hw2 b2 h1 K1 hx B1;go_loopg [10,11] 0 (fun k v u wr=>Below w2.heap.size w2 wr)
 case atStart=>exact Below.refl _ _
 case round=>
  have hr:=h2.past hrel;go_wp2_with fail;refine (zU hr).mono ?_;rintro e w3 ⟨rfl,b3⟩;have bb:=hrel.trans (b3.mono hrel.size);have K3:=(bb.block _ (zC K2)).trans K2;have J3:=(bb.block _ (zC J2)).trans J2;have hx3:=hx2.keep (w':=w3) bb.size (fun k _ hl=>bb.block k hl);have B3:=B2.trans (bb.mono B2.size);have hfb:(fc==0)=false:=beq_eq_false_iff_ne.2 hf;have hfn:(!(fc != 0))=false:=(by rw [bne,hfb];rfl);have fa:=fun o=>fo K3 o;have ca0:=co K3 0;have ca1:=co K3 1;have ca2:=co K3 2;have ca3:=co K3 3;have ca4:=co K3 4;have ca5:=co K3 5;have cb0:=co J3 0;have cb1:=co J3 1;have cb2:=co J3 2;have cb3:=co J3 3;have cb4:=co J3 4;have cb5:=co J3 5;simp only [gT,gZ,gS] at ca0 ca1 ca2 ca3 ca4 ca5 cb0 cb1 cb2 cb3 cb4 cb5;clear K2 J2 hx2 B2 h2 hr bb b3 hrel;go_wp2;have zT:=HZ.out;exact bodyPost_ret (v:=exA y) (by simp [exA,results,Tryz.results87,go_sem,ca0,ca1,ca2,ca3,ca4,ca5]) rfl ⟨y,x,rfl,(hx3.put6 (k:=w.heap.size) (by rw [zT];omega) y).wide (fun i hi _=>by rw [zT] at hi;omega),((((((B3.setCell (p:=⟨w.heap.size,0,none⟩) nR _).setCell (p:=⟨w.heap.size,1,none⟩) nR _).setCell (p:=⟨w.heap.size,2,none⟩) nR _).setCell (p:=⟨w.heap.size,3,none⟩) nR _).setCell (p:=⟨w.heap.size,4,none⟩) nR _).setCell (p:=⟨w.heap.size,5,none⟩) nR _)⟩
theorem zDI {op:Nat} (hA:XBad 87 [.int .i64 3,.int .i64 (op:Int)] b g cap ao I):XBad 87 [.int .i64 2,.int .i64 (op:Int)] b g cap ao I:=by
 intro nx fc fa pt w h hf
 show Calls Tryz.prog 87 #[.pointer (some ⟨b,0,none⟩),.int .i64 2,.int .i64 (op:Int)] w _
 have bT:=xX w;have zT:=qE w;have K0:=qT w;have hW:tabW w=_:=rfl;unfold tabW at hW;go_enter Tryz.func87,Tryz.ntmps87;go_wp2_with fail;obtain ⟨W,hWW⟩:=nm (tabW w);rw [←hWW] at bT zT K0;have h0:=h.past bT;have hcall:=hA nx fc fa pt W h0 hf;rw [hWW] at hcall;refine Calls.mono hcall ?_;rintro e w1 ⟨y,x,rfl,hx,b1⟩;rw [←hWW] at hx b1;have K1:=(b1.block _ (by rw [zT];omega)).trans K0;have B1:=bT.trans (b1.mono bT.size);have h1:=h0.past b1;have y1:=b1.size;unfold tab0 at K1;have HZ:=zD zT;have HY:=zD y1;clear hW hWW hcall K0 bT zT b1 y1;unfold exA;obtain ⟨w2,hw2⟩:=nm (w1.alloc (.cells (exC y) 45 (0,0)));have b2:=xA hw2;have J2:=xE hw2;have h2:=h1.past b2;have K2:=(b2.block _ (zC K1)).trans K1;have hx2:=hx.keep (w':=w2) b2.size (fun k _ hl=>b2.block k hl);have B2:=B1.trans (b2.mono B1.size);go_wp2_with fail;rw [←hw2];clear hw2 b2 h1 K1 hx B1;go_loopg [10,11] 0 (fun k v u wr=>Below w2.heap.size w2 wr)
 case atStart=>exact Below.refl _ _
 case round=>
  have hr:=h2.past hrel;go_wp2_with fail;refine (zU hr).mono ?_;rintro e w3 ⟨rfl,b3⟩;have bb:=hrel.trans (b3.mono hrel.size);have K3:=(bb.block _ (zC K2)).trans K2;have J3:=(bb.block _ (zC J2)).trans J2;have hx3:=hx2.keep (w':=w3) bb.size (fun k _ hl=>bb.block k hl);have B3:=B2.trans (bb.mono B2.size);have hfb:(fc==0)=false:=beq_eq_false_iff_ne.2 hf;have hfn:(!(fc != 0))=false:=(by rw [bne,hfb];rfl);have fa:=fun o=>fo K3 o;have ca0:=co K3 0;have ca1:=co K3 1;have ca2:=co K3 2;have ca3:=co K3 3;have ca4:=co K3 4;have ca5:=co K3 5;have cb0:=co J3 0;have cb1:=co J3 1;have cb2:=co J3 2;have cb3:=co J3 3;have cb4:=co J3 4;have cb5:=co J3 5;simp only [gT,gZ,gS] at ca0 ca1 ca2 ca3 ca4 ca5 cb0 cb1 cb2 cb3 cb4 cb5;clear K2 J2 hx2 B2 h2 hr bb b3 hrel;go_wp2;have zT:=HZ.out;exact bodyPost_ret (v:=exA y) (by simp [exA,results,Tryz.results87,go_sem,ca0,ca1,ca2,ca3,ca4,ca5]) rfl ⟨y,x,rfl,(hx3.put6 (k:=w.heap.size) (by rw [zT];omega) y).wide (fun i hi _=>by rw [zT] at hi;omega),((((((B3.setCell (p:=⟨w.heap.size,0,none⟩) nR _).setCell (p:=⟨w.heap.size,1,none⟩) nR _).setCell (p:=⟨w.heap.size,2,none⟩) nR _).setCell (p:=⟨w.heap.size,3,none⟩) nR _).setCell (p:=⟨w.heap.size,4,none⟩) nR _).setCell (p:=⟨w.heap.size,5,none⟩) nR _)⟩
theorem zDJ {op:Nat} (hA:XBad 87 [.int .i64 4,.int .i64 (op:Int)] b g cap ao I):XBad 87 [.int .i64 3,.int .i64 (op:Int)] b g cap ao I:=by
 intro nx fc fa pt w h hf
 show Calls Tryz.prog 87 #[.pointer (some ⟨b,0,none⟩),.int .i64 3,.int .i64 (op:Int)] w _
 have bT:=xX w;have zT:=qE w;have K0:=qT w;have hW:tabW w=_:=rfl;unfold tabW at hW;go_enter Tryz.func87,Tryz.ntmps87;go_wp2_with fail;obtain ⟨W,hWW⟩:=nm (tabW w);rw [←hWW] at bT zT K0;have h0:=h.past bT;have hcall:=hA nx fc fa pt W h0 hf;rw [hWW] at hcall;refine Calls.mono hcall ?_;rintro e w1 ⟨y,x,rfl,hx,b1⟩;rw [←hWW] at hx b1;have K1:=(b1.block _ (by rw [zT];omega)).trans K0;have B1:=bT.trans (b1.mono bT.size);have h1:=h0.past b1;have y1:=b1.size;unfold tab0 at K1;have HZ:=zD zT;have HY:=zD y1;clear hW hWW hcall K0 bT zT b1 y1;unfold exA;obtain ⟨w2,hw2⟩:=nm (w1.alloc (.cells (exC y) 45 (0,0)));have b2:=xA hw2;have J2:=xE hw2;have h2:=h1.past b2;have K2:=(b2.block _ (zC K1)).trans K1;have hx2:=hx.keep (w':=w2) b2.size (fun k _ hl=>b2.block k hl);have B2:=B1.trans (b2.mono B1.size);go_wp2_with fail;rw [←hw2];clear hw2 b2 h1 K1 hx B1;go_loopg [10,11] 0 (fun k v u wr=>Below w2.heap.size w2 wr)
 case atStart=>exact Below.refl _ _
 case round=>
  have hr:=h2.past hrel;go_wp2_with fail;refine (zU hr).mono ?_;rintro e w3 ⟨rfl,b3⟩;have bb:=hrel.trans (b3.mono hrel.size);have K3:=(bb.block _ (zC K2)).trans K2;have J3:=(bb.block _ (zC J2)).trans J2;have hx3:=hx2.keep (w':=w3) bb.size (fun k _ hl=>bb.block k hl);have B3:=B2.trans (bb.mono B2.size);have hfb:(fc==0)=false:=beq_eq_false_iff_ne.2 hf;have hfn:(!(fc != 0))=false:=(by rw [bne,hfb];rfl);have fa:=fun o=>fo K3 o;have ca0:=co K3 0;have ca1:=co K3 1;have ca2:=co K3 2;have ca3:=co K3 3;have ca4:=co K3 4;have ca5:=co K3 5;have cb0:=co J3 0;have cb1:=co J3 1;have cb2:=co J3 2;have cb3:=co J3 3;have cb4:=co J3 4;have cb5:=co J3 5;simp only [gT,gZ,gS] at ca0 ca1 ca2 ca3 ca4 ca5 cb0 cb1 cb2 cb3 cb4 cb5;clear K2 J2 hx2 B2 h2 hr bb b3 hrel;go_wp2;have zT:=HZ.out;exact bodyPost_ret (v:=exA y) (by simp [exA,results,Tryz.results87,go_sem,ca0,ca1,ca2,ca3,ca4,ca5]) rfl ⟨y,x,rfl,(hx3.put6 (k:=w.heap.size) (by rw [zT];omega) y).wide (fun i hi _=>by rw [zT] at hi;omega),((((((B3.setCell (p:=⟨w.heap.size,0,none⟩) nR _).setCell (p:=⟨w.heap.size,1,none⟩) nR _).setCell (p:=⟨w.heap.size,2,none⟩) nR _).setCell (p:=⟨w.heap.size,3,none⟩) nR _).setCell (p:=⟨w.heap.size,4,none⟩) nR _).setCell (p:=⟨w.heap.size,5,none⟩) nR _)⟩
theorem zDK {op:Nat} (hA:XBad 87 [.int .i64 5,.int .i64 (op:Int)] b g cap ao I):XBad 87 [.int .i64 4,.int .i64 (op:Int)] b g cap ao I:=by
 intro nx fc fa pt w h hf
 show Calls Tryz.prog 87 #[.pointer (some ⟨b,0,none⟩),.int .i64 4,.int .i64 (op:Int)] w _
 have bT:=xX w;have zT:=qE w;have K0:=qT w;have hW:tabW w=_:=rfl;unfold tabW at hW;go_enter Tryz.func87,Tryz.ntmps87;go_wp2_with fail;obtain ⟨W,hWW⟩:=nm (tabW w);rw [←hWW] at bT zT K0;have h0:=h.past bT;have hcall:=hA nx fc fa pt W h0 hf;rw [hWW] at hcall;refine Calls.mono hcall ?_;rintro e w1 ⟨y,x,rfl,hx,b1⟩;rw [←hWW] at hx b1;have K1:=(b1.block _ (by rw [zT];omega)).trans K0;have B1:=bT.trans (b1.mono bT.size);have h1:=h0.past b1;have y1:=b1.size;unfold tab0 at K1;have HZ:=zD zT;have HY:=zD y1;clear hW hWW hcall K0 bT zT b1 y1;unfold exA;obtain ⟨w2,hw2⟩:=nm (w1.alloc (.cells (exC y) 45 (0,0)));have b2:=xA hw2;have J2:=xE hw2;have h2:=h1.past b2;have K2:=(b2.block _ (zC K1)).trans K1;have hx2:=hx.keep (w':=w2) b2.size (fun k _ hl=>b2.block k hl);have B2:=B1.trans (b2.mono B1.size);go_wp2_with fail;rw [←hw2];clear hw2 b2 h1 K1 hx B1;go_loopg [10,11] 0 (fun k v u wr=>Below w2.heap.size w2 wr)
 case atStart=>exact Below.refl _ _
 case round=>
  have hr:=h2.past hrel;go_wp2_with fail;refine (zU hr).mono ?_;rintro e w3 ⟨rfl,b3⟩;have bb:=hrel.trans (b3.mono hrel.size);have K3:=(bb.block _ (zC K2)).trans K2;have J3:=(bb.block _ (zC J2)).trans J2;have hx3:=hx2.keep (w':=w3) bb.size (fun k _ hl=>bb.block k hl);have B3:=B2.trans (bb.mono B2.size);have hfb:(fc==0)=false:=beq_eq_false_iff_ne.2 hf;have hfn:(!(fc != 0))=false:=(by rw [bne,hfb];rfl);have fa:=fun o=>fo K3 o;have ca0:=co K3 0;have ca1:=co K3 1;have ca2:=co K3 2;have ca3:=co K3 3;have ca4:=co K3 4;have ca5:=co K3 5;have cb0:=co J3 0;have cb1:=co J3 1;have cb2:=co J3 2;have cb3:=co J3 3;have cb4:=co J3 4;have cb5:=co J3 5;simp only [gT,gZ,gS] at ca0 ca1 ca2 ca3 ca4 ca5 cb0 cb1 cb2 cb3 cb4 cb5;clear K2 J2 hx2 B2 h2 hr bb b3 hrel;go_wp2;have zT:=HZ.out;exact bodyPost_ret (v:=exA y) (by simp [exA,results,Tryz.results87,go_sem,ca0,ca1,ca2,ca3,ca4,ca5]) rfl ⟨y,x,rfl,(hx3.put6 (k:=w.heap.size) (by rw [zT];omega) y).wide (fun i hi _=>by rw [zT] at hi;omega),((((((B3.setCell (p:=⟨w.heap.size,0,none⟩) nR _).setCell (p:=⟨w.heap.size,1,none⟩) nR _).setCell (p:=⟨w.heap.size,2,none⟩) nR _).setCell (p:=⟨w.heap.size,3,none⟩) nR _).setCell (p:=⟨w.heap.size,4,none⟩) nR _).setCell (p:=⟨w.heap.size,5,none⟩) nR _)⟩
end Go.Proofs.YthkpanbgkimhoaaGreatDoor
namespace Go.Proofs.YthkpanbgkimhoaaGreatDoor
open Go.RowKit Go.IntWalk
variable {b g cap:Nat} {ao:Option Addr} {I:Inp}
def At (w:World) (b g cap:Nat) (ao:Option Addr) (I:Inp) (s:Res Int):Prop :=
 match s with
 | .ok pt n=>Rr w b g cap ao I n 0 0 pt
 | .err c a=>4≤c∧∃ n pt,Rr w b g cap ao I n ((c:Nat):Int) ((a:Nat):Int) pt
theorem At.map {w w':World} {s:Res Int} (h:At w b g cap ao I s) (f:∀ {n fc fa pt},Rr w b g cap ao I n fc fa pt→Rr w' b g cap ao I n fc fa pt):At w' b g cap ao I s:=by
 cases s with
 | ok pt n=>exact f h
 | err c a=>
  obtain ⟨h1,n,pt,h2⟩:=h;exact ⟨h1,n,pt,f h2⟩
theorem At.past {w w':World} {s:Res Int} (h:At w b g cap ao I s) (hb:Below w.heap.size w w'):At w' b g cap ao I s:=h.map fun h=>h.past hb
theorem At.alloc {w:World} {s:Res Int} (h:At w b g cap ao I s) (o:Obj):At (w.alloc o) b g cap ao I s:=h.past ((Below.refl _ _).alloc nR _)
theorem At.put6 {w:World} {s:Res Int} (h:At w b g cap ao I s) {k:Nat} (hb:k≠b) (hg:k≠g) (y:ExV):At (put6 w k y) b g cap ao I s:=h.map fun h=>h.put6 hb hg y
theorem At.lt {w:World} {s:Res Int} (h:At w b g cap ao I s):b<w.heap.size:=by
 cases s with
 | ok pt n=>exact (Rr.cells h).2.2.2.2.2.2
 | err c a=>
  obtain ⟨h1,n,pt,h2⟩:=h;exact h2.cells.2.2.2.2.2.2
theorem At.went {α:Type} {w:World} {pt:Int} {r:Res α} (h:Went w b g cap ao I pt r) (hc:∀ c a,r=.err c a→4≤c):At w b g cap ao I (r.bind fun _ m=>.ok pt m):=by
 cases r with
 | ok v m=>exact h
 | err c a=>exact ⟨hc c a rfl,h⟩
def isBad:Res Int→Bool
 | .ok _ _=>false
 | .err _ _=>true
theorem bad_s {w:World} {s:Res Int} (h:At w b g cap ao I s) :
  Calls Tryz.prog 15 #[.pointer (some ⟨b,0,none⟩)] w fun e w'=>e=.returned (.bool (isBad s))∧Below w.heap.size w w':=by
 cases s with
 | ok pt n=>exact zU h
 | err c a=>
  obtain ⟨h1,n,pt,h2⟩:=h;have e:(((c:Nat):Int) != 0)=true:=bne_iff_ne.2 (by omega);have:=zU h2;rw [e] at this;exact this
theorem jP {w:World} {c a:Nat} (h:At w b g cap ao I (.err c a)):Calls Tryz.prog 15 #[.pointer (some ⟨b,0,none⟩)] w fun e w'=>e=.returned (.bool true)∧Below w.heap.size w w':=bad_s h
theorem qP {w:World} {pt:Int} {n:Nat} (h:At w b g cap ao I (.ok pt n)):Calls Tryz.prog 15 #[.pointer (some ⟨b,0,none⟩)] w fun e w'=>e=.returned (.bool false)∧Below w.heap.size w w':=bad_s h
theorem need_err {I:Inp} {x:List UInt8} {n c a:Nat} (h:Ps.need I x n=.err c a):4≤c:=by
 unfold Ps.need at h
 split at h
 ·cases h
 ·unfold Ps.refuse Ps.refC at h
  cases h
  split<;>omega
def mustS (I:Inp) (x:List UInt8) (s:Res Int):Res Int:=s.bind fun pt n=>(Ps.need I x n).bind fun _ m=>.ok pt m
theorem qK {w:World} {s:Res Int} (h:At w b g cap ao I s) (hS:Sure I) (x:ByteArray) (hs:Known I x.data.toList) :
  Calls Tryz.prog 44 #[.pointer (some ⟨b,0,none⟩),.string x] w fun e w'=>e=.returned (.tuple #[])∧At w' b g cap ao I (mustS I x.data.toList s)∧Aside [b] w.heap.size w w':=by
 cases s with
 | ok pt n=>
  refine (zDQ h hS.kind x hs).mono ?_;rintro e w' ⟨rfl,hw,ha⟩;exact ⟨rfl,At.went hw (fun c a e=>need_err e),ha⟩
 | err c a=>
  obtain ⟨h1,n,pt,h2⟩:=h;refine (zCA h2 (by omega) x).mono ?_;rintro e w' ⟨rfl,hb⟩;exact ⟨rfl,⟨h1,n,pt,h2.past hb⟩,aside hb⟩
def exprS (R:Nat→Res Ex) (s:Res Int):Res Int:=s.bind fun pt n=>(R n).bind fun v m=>.ok (pt+(Ps.count v:Int)) m
def Got (R:Nat→Res Ex) (s:Res Int) (x:Ex):Prop:=∀ pt n v m,s=.ok pt n→R n=.ok v m→x=v
def FewS (I:Inp) (s:Res Int):Prop:=∀ pt n,s=.ok pt n→Few I n pt
theorem qN {F:Nat} {args:List Value} {R:Nat→Res Ex} (hX:XDoes F args b g cap ao I R) (hB:XBad F args b g cap ao I) {w:World} {s:Res Int} (h:At w b g cap ao I s) (hgb:g<w.heap.size) (hf:FewS I s) :
  Calls Tryz.prog F (.pointer (some ⟨b,0,none⟩) :: args).toArray w fun e w'=>∃ y x,e=.returned (exA y)∧HEx (fun i=>w.heap.size≤i) w' y.cells x∧Aside [b] w.heap.size w w'∧At w' b g cap ao I (exprS R s)∧Got R s x:=by
 cases s with
 | ok pt n=>
  refine (hX n pt w h hgb (hf pt n rfl)).mono ?_;rintro e w' ⟨y,x,rfl,hx,ha,hout⟩;refine ⟨y,x,rfl,hx,ha,?_,?_⟩
  ·show At w' b g cap ao I ((R n).bind _)
   cases hr:R n with
   | ok v m=>
    rw [hr] at hout;obtain ⟨rfl,h2⟩:=hout;exact h2
   | err c a=>
    rw [hr] at hout;exact hout
  ·intro pt' n' v m e1 e2
   cases e1
   rw [e2] at hout;exact hout.1.symm
 | err c a=>
  obtain ⟨h1,n,pt,h2⟩:=h;refine (hB n _ _ pt w h2 (by omega)).mono ?_;rintro e w' ⟨y,x,rfl,hx,hb⟩;exact ⟨y,x,rfl,hx,aside hb,⟨h1,n,pt,h2.past hb⟩,fun _ _ _ _ e=>by cases e⟩
def partS (s:Res Int):Res Int:=s.bind fun pt n=>.ok (pt+1) n
theorem vQ {w:World} {s:Res Int} (h:At w b g cap ao I s) (hf:FewS I s) (y:ExV) :
  Calls Tryz.prog 97 #[.pointer (some ⟨b,0,none⟩),exA y] w fun e w'=>e=.returned (exA y)∧At w' b g cap ao I (partS s)∧Aside [b] w.heap.size w w':=by
 cases s with
 | ok pt n=>
  refine (partR_any h y).mono ?_;rintro e w' ⟨rfl,h2,ha⟩;obtain ⟨f1,f2⟩:=hf pt n rfl;have hle:=Rr.le h;rw [show wrap64 (pt+1)=pt+1 from wrap64_in _ ⟨by omega,by omega⟩] at h2;exact ⟨rfl,h2,ha⟩
 | err c a=>
  obtain ⟨h1,n,pt,h2⟩:=h;refine (partR_any h2 y).mono ?_;rintro e w' ⟨rfl,h3,ha⟩;exact ⟨rfl,⟨h1,n,_,h3⟩,ha⟩
theorem lv_or (I:Inp) (n:Nat):(whichI I [[111,114],[120,111,114]] n = -1∧btw 11 12 (I.pk n).text=0)∨∃ j:Nat,j<2∧whichI I [[111,114],[120,111,114]] n=(j:Int)∧btw 11 12 (I.pk n).text=11+(j:Int):=by
 unfold whichI Ps.wordAt Ps.wordAt Ps.wordAt Ps.sees btw;generalize (I.pk n).text=t;by_cases h1:t=[111,114]
 ·subst h1;exact .inr ⟨0,by decide,by decide,by decide⟩
 by_cases h2:t=[120,111,114]
 ·subst h2;exact .inr ⟨1,by decide,by decide,by decide⟩
 refine .inl ⟨by simp [h1,h2],?_⟩;unfold signOp;simp only [beq_iff_eq,h1,h2,if_false]
 repeat' split
 all_goals first | rfl | omega
theorem lv_and (I:Inp) (n:Nat):(whichI I [[97,110,100]] n = -1∧btw 10 10 (I.pk n).text=0)∨∃ j:Nat,j<1∧whichI I [[97,110,100]] n=(j:Int)∧btw 10 10 (I.pk n).text=10+(j:Int):=by
 unfold whichI Ps.wordAt Ps.wordAt Ps.sees btw;generalize (I.pk n).text=t;by_cases h1:t=[97,110,100]
 ·subst h1;exact .inr ⟨0,by decide,by decide,by decide⟩
 refine .inl ⟨by simp [h1],?_⟩;unfold signOp;simp only [beq_iff_eq,h1,if_false]
 repeat' split
 all_goals first | rfl | omega
theorem lv_cmp (I:Inp) (n:Nat):(whichI I [[60],[61,61]] n = -1∧btw 8 9 (I.pk n).text=0)∨∃ j:Nat,j<2∧whichI I [[60],[61,61]] n=(j:Int)∧btw 8 9 (I.pk n).text=8+(j:Int):=by
 unfold whichI Ps.wordAt Ps.wordAt Ps.wordAt Ps.sees btw;generalize (I.pk n).text=t;by_cases h1:t=[60]
 ·subst h1;exact .inr ⟨0,by decide,by decide,by decide⟩
 by_cases h2:t=[61,61]
 ·subst h2;exact .inr ⟨1,by decide,by decide,by decide⟩
 refine .inl ⟨by simp [h1,h2],?_⟩;unfold signOp;simp only [beq_iff_eq,h1,h2,if_false]
 repeat' split
 all_goals first | rfl | omega
theorem lv_sum (I:Inp) (n:Nat):(whichI I [[43],[45]] n = -1∧btw 1 2 (I.pk n).text=0)∨∃ j:Nat,j<2∧whichI I [[43],[45]] n=(j:Int)∧btw 1 2 (I.pk n).text=1+(j:Int):=by
 unfold whichI Ps.wordAt Ps.wordAt Ps.wordAt Ps.sees btw;generalize (I.pk n).text=t;by_cases h1:t=[43]
 ·subst h1;exact .inr ⟨0,by decide,by decide,by decide⟩
 by_cases h2:t=[45]
 ·subst h2;exact .inr ⟨1,by decide,by decide,by decide⟩
 refine .inl ⟨by simp [h1,h2],?_⟩;unfold signOp;simp only [beq_iff_eq,h1,h2,if_false]
 repeat' split
 all_goals first | rfl | omega
theorem lv_mul (I:Inp) (n:Nat):(whichI I [[42],[47],[37]] n = -1∧btw 3 5 (I.pk n).text=0)∨∃ j:Nat,j<3∧whichI I [[42],[47],[37]] n=(j:Int)∧btw 3 5 (I.pk n).text=3+(j:Int):=by
 unfold whichI Ps.wordAt Ps.wordAt Ps.wordAt Ps.wordAt Ps.sees btw;generalize (I.pk n).text=t;by_cases h1:t=[42]
 ·subst h1;exact .inr ⟨0,by decide,by decide,by decide⟩
 by_cases h2:t=[47]
 ·subst h2;exact .inr ⟨1,by decide,by decide,by decide⟩
 by_cases h3:t=[37]
 ·subst h3;exact .inr ⟨2,by decide,by decide,by decide⟩
 refine .inl ⟨by simp [h1,h2,h3],?_⟩;unfold signOp;simp only [beq_iff_eq,h1,h2,h3,if_false]
 repeat' split
 all_goals first | rfl | omega
def Goes (M:Res Ex) (F:Nat→Ex→Nat→Res Ex) (I:Inp) (nx:Nat) (pt:Int) (k:Nat) (e:Ex) (s:Res Int):Prop :=
 match s with
 | .ok p n=>p=pt+(Ps.count e:Int)∧I.L.length≤n+k∧Ps.count e+nx≤n∧M=F k e n
 | .err c a=>M=.err c a
theorem zAn {M:Res Ex} {F:Nat→Ex→Nat→Res Ex} {I:Inp} {nx:Nat} {pt:Int} {R:Nat→Res Ex} {x:Ex} (hn:Nice R) (hM:M=(R nx).bind fun e n1=>F (I.L.length-n1) e n1) (hx:Got R (.ok pt nx) x) :
  ∃ k,Goes M F I nx pt k x (exprS R (.ok pt nx)):=by
 show ∃ k,Goes M F I nx pt k x ((R nx).bind _)
 cases hr:R nx with
 | ok v m=>
  obtain rfl:=hx pt nx v m rfl hr;rw [hr] at hM;refine ⟨I.L.length-m,rfl,by omega,?_,hM⟩;have:=hn nx x m hr;rw [vA];exact this
 | err c a=>
  rw [hr] at hM;exact ⟨0,hM⟩
theorem zAF {M:Res Ex} {F:Nat→Ex→Nat→Res Ex} {I:Inp} {nx k:Nat} {pt:Int} {e:Ex} {s:Res Int} (h:Goes M F I nx pt k e s) (hf:Few I nx pt):FewS I s:=by
 intro p n e1;subst e1;obtain ⟨rfl,h1,h2,_⟩:=h;obtain ⟨f1,f2⟩:=hf;exact ⟨by omega,by omega⟩
end Go.Proofs.YthkpanbgkimhoaaGreatDoor
