import Derived.Test.YtkfgbhlpjkkgfaaGreatDoorT34
import Derived.Test.YtkfgbhlpjkkgfaaGreatDoorT03
set_option linter.unusedVariables false
set_option linter.unusedSimpArgs false
set_option maxHeartbeats 64000000
set_option maxRecDepth 100000
namespace Go.Proofs.YtkfgbhlpjkkgfaaGreatDoor
open Go.RowKit Go.IntWalk
theorem terms_nil {ok:Nat->Prop} {w:World}:HTerms ok w (.slice none 0 0) []:=⟨fun _=>[],Sl.nil,fun i h=>absurd h (Nat.not_lt_zero _)⟩
theorem zFa {b g cap:Nat} {I:Inp} {op:Nat}:Does 144 b g cap I op dcV (Ps.decl I):=by
 intro nx w h hG;have hb:=h.bb;have hg:=h.gb;go_enter Tryz.func144,Tryz.ntmps144;go_wp2_with fail;refine (zBJ (h.alloc _)).mono ?_;rintro e w1 ⟨a1,hres⟩;have z1:w.heap.size+1<=w1.heap.size:=(by simpa using a1.size);have A1:=((Aside.refl (S:=[b]) (B:=w.heap.size) w).alloc nR _).trans a1 (by simp)
 cases hn:Ps.name I nx with
 | err c a=>
  rw [hn] at hres;obtain rfl:e=_:=hres;exact ⟨rfl,Post.fail (by unfold Ps.decl;rw [hn];rfl) A1⟩
 | ok s n1=>
  rw [hn] at hres;obtain ⟨dx,h1,_,rfl,rfl⟩:=hres;have cJ:=a1.keep (zAC w _) (by simp) (by simp;omega);have HN:=zAA hn;clear hn;go_wp2_with fail;refine (zAJ (h1.alloc _) ⟨#[58]⟩ (by decide)).mono ?_;rintro e w2 ⟨a2,hres⟩;have z2:w1.heap.size+1<=w2.heap.size:=(by simpa using a2.size);have A2:=(A1.alloc (by omega) _).trans a2 (by simp;omega);have jl:=a2.keep (zAC w1 _) (by simp) (by simp;omega);have cH:=a2.keep (kA cJ _) (by simp;omega) (by simp;omega);have es:(⟨#[58]⟩:ByteArray).data.toList=[58]:=rfl;rw [es] at hres;clear es cJ a1 a2 A1
  cases hn:Ps.need I [58] n1 with
  | err c a=>
   rw [hn] at hres;obtain rfl:e=_:=hres;exact ⟨rfl,Post.fail (by unfold Ps.decl;rw [HN.out];simp only [Res.bind];rw [hn]) A2⟩
  | ok u n2=>
   rw [hn] at hres;obtain ⟨sM,h2,_,rfl,rfl⟩:=hres;have aw:Hid (Ps.decl I nx=if Ps.sees I [105,110,116] n2=true then Ps.declN I s 105 (n2+1) else if Ps.sees I [98,111,111,108] n2=true then Ps.declN I s 98 (n2+1) else Ps.refuse I n2):=by
    show Ps.decl I nx=_
    unfold Ps.decl;rw [HN.out];simp only [Res.bind];rw [hn]
   clear HN hn h1;go_wp2_with fail;refine (zAH h2 ⟨#[105,110,116]⟩ (by decide)).mono ?_;rintro e w3 ⟨rfl,h3,a3⟩;have z3:=a3.size;have A3:=A2.trans a3 (by omega);have lg:=a3.keep cH (by omega) (by simp;omega);have og:=a3.keep jl (by omega) (by simp;omega);have es:(⟨#[105,110,116]⟩:ByteArray).data.toList=[105,110,116]:=rfl;rw [es] at h3;simp only [es];clear es cH jl a3 A2 h2
   cases hq:Ps.sees I [105,110,116] n2 with
   | true=>
    rw [hq] at h3;simp only [if_true] at h3;have i5:Hid (Ps.decl I nx=Ps.declN I s 105 (n2+1)):=by
     show Ps.decl I nx=_
     rw [aw.out];simp [hq]
    have u1:=co og 1;have g1:=fo og 1;simp at u1;have ei:=zAD og 1 (.int .u8 105);have jt:=zAI lg (p:=⟨w1.heap.size,1,none⟩) (by simp;omega) (.int .u8 105);have h5:=h3.set (p:=⟨w1.heap.size,1,none⟩) (by simp;omega) (by simp;omega) (.int .u8 105);have A5:=A3.set (p:=⟨w1.heap.size,1,none⟩) (by simp;omega) (.int .u8 105);have z5:(w3.setCell ⟨w1.heap.size,1,none⟩ (.int .u8 105)).heap.size=w3.heap.size:=(by simp [World.setCell]);simp at ei;go_wp2_with fail;generalize w3.setCell ⟨w1.heap.size,1,none⟩ (.int .u8 105)=w5 at ei jt h5 A5 z5 ⊢;clear u1 g1 lg og h3 A3 aw;refine (zAH h5 ⟨#[94]⟩ (by decide)).mono ?_;rintro e w6 ⟨rfl,h6,a6⟩;have z6:=a6.size;have A6:=A5.trans a6 (by omega);have nH:=a6.keep jt (by omega) (by simp;omega);have pf:=a6.keep ei (by omega) (by simp;omega);have es:(⟨#[94]⟩:ByteArray).data.toList=[94]:=rfl;rw [es] at h6;simp only [es];clear es a6 A5 h5 jt ei
    cases hq6:Ps.sees I [94] (n2+1) with
    | false=>
     rw [hq6] at h6;simp only [Bool.false_eq_true,if_false] at h6;have bw:=co pf 0;have bz:=co pf 1;have bv:=co pf 2;have aB:=co nH 0;have ay:=co nH 1;have az:=co nH 2;have fA:=fun o=>fo nH o;simp at bw bz bv aB ay az;go_wp2;refine bodyPost_ret (v:=.agg #[.string s,.int .u8 105,.slice none 0 0]) (by simp [results,Tryz.results144,go_sem,aB,ay,az]) rfl ?_;exact Post.good (v:=⟨s,105,[]⟩) (by rw [i5.out];unfold Ps.declN;rw [hq6];rfl) (((A6.set (by simp) _).set (by simp) _).set (by simp) _) (by omega) (((h6.set (by simp;omega) (by simp;omega) _).set (by simp;omega) (by simp;omega) _).set (by simp;omega) (by simp;omega) _) ⟨_,_,_,rfl,terms_nil⟩
    | true=>
     rw [hq6] at h6;simp only [if_true] at h6;go_wp2_with fail;refine (zCb h6).mono ?_;rintro e w7 ⟨a7,hres⟩;have z7:=a7.size;have A7:=A6.trans a7 (by omega);have rz:=a7.keep nH (by omega) (by simp;omega);have qT:=a7.keep pf (by omega) (by simp;omega);clear nH pf h6 A6
     cases hn:Ps.size I (n2+1+1) with
     | err c a=>
      rw [hn] at hres;obtain rfl:e=_:=hres;exact ⟨rfl,Post.fail (by rw [i5.out];unfold Ps.declN;rw [hq6,if_pos rfl,hn];rfl) A7⟩
     | ok z n3=>
      rw [hn] at hres;obtain ⟨qN,h7,x7,rfl,hV⟩:=hres;obtain ⟨ad,nd,cd,rfl⟩:=HTerms.slice hV;have bw:=co qT 0;have bz:=co qT 1;have bv:=co qT 2;have aB:=co rz 0;have ay:=co rz 1;have az:=co rz 2;have fA:=fun o=>fo rz o;have fB:=fun o=>fo qT o;simp at bw bz bv aB ay az;have FI:=hV.wide (ok':=fun i=>w1.heap.size<i) (fun i hi _=>by omega);have DS:=zAA hn;clear hn hV;go_wp2;refine bodyPost_ret (v:=.agg #[.string s,.int .u8 105,.slice ad nd cd]) (by simp [results,Tryz.results144,go_sem,aB,ay,az]) rfl ?_;exact Post.good (v:=⟨s,105,z⟩) (by rw [i5.out];unfold Ps.declN;rw [hq6,if_pos rfl,DS.out];rfl) ((((A7.set (by simp;omega) _).set (by simp) _).set (by simp) _).set (by simp) _) (by omega) ((((h7.set (by simp;omega) (by simp;omega) _).set (by simp;omega) (by simp;omega) _).set (by simp;omega) (by simp;omega) _).set (by simp;omega) (by simp;omega) _) ⟨_,_,_,rfl,((((FI.set (by simp) _).set (by simp;omega) _).set (by simp;omega) _).set (by simp;omega) _).wide (fun i hi _=>by omega)⟩
   | false=>
    rw [hq] at h3;simp only [Bool.false_eq_true,if_false] at h3;go_wp2_with fail;refine (zAH h3 ⟨#[98,111,111,108]⟩ (by decide)).mono ?_;rintro e w4 ⟨rfl,h4,a4⟩;have z4:=a4.size;have A4:=A3.trans a4 (by omega);have eB:=a4.keep lg (by omega) (by simp;omega);have dZ:=a4.keep og (by omega) (by simp;omega);have es:(⟨#[98,111,111,108]⟩:ByteArray).data.toList=[98,111,111,108]:=rfl;rw [es] at h4;simp only [es];clear es lg og a4 A3 h3
    cases dK:Ps.sees I [98,111,111,108] n2 with
    | true=>
     rw [dK] at h4;simp only [if_true] at h4;have i5:Hid (Ps.decl I nx=Ps.declN I s 98 (n2+1)):=by
      show Ps.decl I nx=_
      rw [aw.out];simp [hq,dK]
     have u1:=co dZ 1;have g1:=fo dZ 1;simp at u1;have ei:=zAD dZ 1 (.int .u8 98);have jt:=zAI eB (p:=⟨w1.heap.size,1,none⟩) (by simp;omega) (.int .u8 98);have h5:=h4.set (p:=⟨w1.heap.size,1,none⟩) (by simp;omega) (by simp;omega) (.int .u8 98);have A5:=A4.set (p:=⟨w1.heap.size,1,none⟩) (by simp;omega) (.int .u8 98);have z5:(w4.setCell ⟨w1.heap.size,1,none⟩ (.int .u8 98)).heap.size=w4.heap.size:=(by simp [World.setCell]);simp at ei;go_wp2_with fail;generalize w4.setCell ⟨w1.heap.size,1,none⟩ (.int .u8 98)=w5 at ei jt h5 A5 z5 ⊢;clear u1 g1 eB dZ h4 A4 aw;refine (zAH h5 ⟨#[94]⟩ (by decide)).mono ?_;rintro e w6 ⟨rfl,h6,a6⟩;have z6:=a6.size;have A6:=A5.trans a6 (by omega);have nH:=a6.keep jt (by omega) (by simp;omega);have pf:=a6.keep ei (by omega) (by simp;omega);have es:(⟨#[94]⟩:ByteArray).data.toList=[94]:=rfl;rw [es] at h6;simp only [es];clear es a6 A5 h5 jt ei
     cases hq6:Ps.sees I [94] (n2+1) with
     | false=>
      rw [hq6] at h6;simp only [Bool.false_eq_true,if_false] at h6;have bw:=co pf 0;have bz:=co pf 1;have bv:=co pf 2;have aB:=co nH 0;have ay:=co nH 1;have az:=co nH 2;have fA:=fun o=>fo nH o;simp at bw bz bv aB ay az;go_wp2;refine bodyPost_ret (v:=.agg #[.string s,.int .u8 98,.slice none 0 0]) (by simp [results,Tryz.results144,go_sem,aB,ay,az]) rfl ?_;exact Post.good (v:=⟨s,98,[]⟩) (by rw [i5.out];unfold Ps.declN;rw [hq6];rfl) (((A6.set (by simp) _).set (by simp) _).set (by simp) _) (by omega) (((h6.set (by simp;omega) (by simp;omega) _).set (by simp;omega) (by simp;omega) _).set (by simp;omega) (by simp;omega) _) ⟨_,_,_,rfl,terms_nil⟩
     | true=>
      rw [hq6] at h6;simp only [if_true] at h6;go_wp2_with fail;refine (zCb h6).mono ?_;rintro e w7 ⟨a7,hres⟩;have z7:=a7.size;have A7:=A6.trans a7 (by omega);have rz:=a7.keep nH (by omega) (by simp;omega);have qT:=a7.keep pf (by omega) (by simp;omega);clear nH pf h6 A6
      cases hn:Ps.size I (n2+1+1) with
      | err c a=>
       rw [hn] at hres;obtain rfl:e=_:=hres;exact ⟨rfl,Post.fail (by rw [i5.out];unfold Ps.declN;rw [hq6,if_pos rfl,hn];rfl) A7⟩
      | ok z n3=>
       rw [hn] at hres;obtain ⟨qN,h7,x7,rfl,hV⟩:=hres;obtain ⟨ad,nd,cd,rfl⟩:=HTerms.slice hV;have bw:=co qT 0;have bz:=co qT 1;have bv:=co qT 2;have aB:=co rz 0;have ay:=co rz 1;have az:=co rz 2;have fA:=fun o=>fo rz o;have fB:=fun o=>fo qT o;simp at bw bz bv aB ay az;have FI:=hV.wide (ok':=fun i=>w1.heap.size<i) (fun i hi _=>by omega);have DS:=zAA hn;clear hn hV;go_wp2;refine bodyPost_ret (v:=.agg #[.string s,.int .u8 98,.slice ad nd cd]) (by simp [results,Tryz.results144,go_sem,aB,ay,az]) rfl ?_;exact Post.good (v:=⟨s,98,z⟩) (by rw [i5.out];unfold Ps.declN;rw [hq6,if_pos rfl,DS.out];rfl) ((((A7.set (by simp;omega) _).set (by simp) _).set (by simp) _).set (by simp) _) (by omega) ((((h7.set (by simp;omega) (by simp;omega) _).set (by simp;omega) (by simp;omega) _).set (by simp;omega) (by simp;omega) _).set (by simp;omega) (by simp;omega) _) ⟨_,_,_,rfl,((((FI.set (by simp) _).set (by simp;omega) _).set (by simp;omega) _).set (by simp;omega) _).wide (fun i hi _=>by omega)⟩
    | false=>
     rw [dK] at h4;simp only [Bool.false_eq_true,if_false] at h4;go_wp2_with fail;refine (zBY h4).mono ?_;rintro e w5 ⟨rfl,b5⟩;exact ⟨rfl,Post.fail (by rw [aw.out];simp [hq,dK];rfl) (A4.trans (aside b5) A4.size)⟩
def put6 (w:World) (k:Nat) (y:ExV):World:=(((((w.setCell ⟨k,0,none⟩ (.int .i64 y.op)).setCell ⟨k,1,none⟩ (.int .i64 y.k)).setCell ⟨k,2,none⟩ (.int .i64 y.n)).setCell ⟨k,3,none⟩ (.string y.name)).setCell ⟨k,4,none⟩ (.slice y.aS y.nS y.cS)).setCell ⟨k,5,none⟩ (.slice y.aL y.nL y.cL)
theorem zBt (w:World) (k:Nat) (y:ExV):(put6 w k y).heap.size=w.heap.size:=by simp [put6,World.setCell]
theorem zCH (w:World) (k:Nat) (y:ExV) (i:Nat) (h:i≠k):(put6 w k y).heap[i]?=w.heap[i]?:=by
 unfold put6;rw [Below.heap_setCell _ _ _ _ h,Below.heap_setCell _ _ _ _ h,Below.heap_setCell _ _ _ _ h,Below.heap_setCell _ _ _ _ h,Below.heap_setCell _ _ _ _ h,Below.heap_setCell _ _ _ _ h]
theorem put6_in {w:World} {k:Nat} {a b c d e f:Value} {t:TypeId} (h:w.heap[k]?=some (.cells #[a,b,c,d,e,f] t (0,0))) (y:ExV):(put6 w k y).heap[k]?=some (.cells #[.int .i64 y.op,.int .i64 y.k,.int .i64 y.n,.string y.name,.slice y.aS y.nS y.cS,.slice y.aL y.nL y.cL] t (0,0)):=by
 have:=zAD (zAD (zAD (zAD (zAD (zAD h 0 (.int .i64 y.op)) 1 (.int .i64 y.k)) 2 (.int .i64 y.n)) 3 (.string y.name)) 4 (.slice y.aS y.nS y.cS)) 5 (.slice y.aL y.nL y.cL)
 simpa [put6] using this
theorem Rd.put6 {w:World} {b g cap:Nat} {L:List Tk.Tok} {len nx op:Nat} (h:Rd w b g cap L len nx op) {k:Nat} (hb:k≠b) (hg:k≠g) (y:ExV):Rd (put6 w k y) b g cap L len nx op :=
 ⟨(zCH _ _ _ _ hb.symm).trans h.here,h.toks.keep (zCH _ _ _ _ hg.symm),h.apart,by rw [zBt];exact h.gb,h.le,h.lc,h.cm⟩
theorem Aside.put6 {S:List Nat} {B:Nat} {w w':World} (h:Aside S B w w') {k:Nat} (hk:B<=k) (y:ExV):Aside S B w (put6 w' k y):=by
 unfold YtkfgbhlpjkkgfaaGreatDoor.put6;exact ((((((h.set (p:=⟨k,0,none⟩) hk _).set (p:=⟨k,1,none⟩) hk _).set (p:=⟨k,2,none⟩) hk _).set (p:=⟨k,3,none⟩) hk _).set (p:=⟨k,4,none⟩) hk _).set (p:=⟨k,5,none⟩) hk _)
theorem HEx.put6 {ok:Nat->Prop} {w:World} {cs:List Value} {e:Ex} (h:HEx ok w cs e) {k:Nat} (hk:¬ok k) (y:ExV):HEx ok (put6 w k y) cs e :=
 h.keep (by rw [zBt];exact Nat.le_refl _) fun i hi _=>zCH _ _ _ _ (fun e=>hk (e ▸ hi))
theorem keep6 {w:World} {k i:Nat} {x:Obj} (hx:w.heap[i]?=some x) (h:i≠k) (y:ExV):(put6 w k y).heap[i]?=some x:=(zCH _ _ _ _ h).trans hx
theorem signOp_nil:signOp []=0:=rfl
theorem btw_lt {I:Inp} {n:Nat} {a c:Int} (h:btw a c (I.pk n).text≠0):n<I.L.length:=by
 apply Classical.byContradiction
 intro hn
 apply h
 unfold Inp.pk peekT;simp [hn,btw,signOp_nil]
theorem more_stop {I:Inp} {R:Nat->Res Ex} {a c:Int} {n:Nat} {e:Ex} (h:btw a c (I.pk n).text=0):∀ k,Ps.more I R a c k e n=.ok e n
 | 0=>rfl
 | _+1=>by simp [Ps.more,h]
theorem more_step {I:Inp} {R:Nat->Res Ex} {a c:Int} {n:Nat} {e:Ex} (h:btw a c (I.pk n).text≠0) (k:Nat):Ps.more I R a c (k+1) e n=(R (n+1)).bind fun r n1=>Ps.more I R a c k (.mk 5 (btw a c (I.pk n).text) 0 ⟨#[]⟩ [] [e,r]) n1:=by simp [Ps.more,h]
theorem betweenI {w:World} {b g cap:Nat} {I:Inp} {nx op:Nat} (h:Rd w b g cap I.L I.len nx op) (a c:Int) :
  Calls Tryz.prog 262 #[.pointer (some ⟨b,0,none⟩),.int .i64 a,.int .i64 c] w fun e w'=>e=.returned (.int .i64 (btw a c (I.pk nx).text))/\Below w.heap.size w w':=between_any h a c
theorem zBS {F b g cap:Nat} {I:Inp} {op nx:Nat} {R:Nat->Res Ex} {a c:Int} (HR:Does F b g cap I op exV R) (lS:∀ args w,(callFunc F args).run Tryz.prog w=.ok (.enter F args) w) {w:World} (h:Rd w b g cap I.L I.len nx op) (hG:GlobB b w) :
  Calls Tryz.prog 255 #[.pointer (some ⟨b,0,none⟩),.int .i64 a,.int .i64 c,.func (.func F) #[.pointer (some ⟨b,0,none⟩)] #[]] w (Post b g cap I op exV nx w (Ps.fromLeft I R a c nx)):=by
 have hb:=h.bb;have hg:=h.gb;go_enter Tryz.func255,Tryz.ntmps255;go_wp2_with fail;refine (HR _ _ (h.alloc _) (hG.alloc _)).mono ?_;rintro e w1 ⟨a1,hres⟩;have z1:w.heap.size+1<=w1.heap.size:=(by simpa using a1.size);have cJ:=a1.keep (zAC w _) (by simp) (by simp;omega);have A1:=((Aside.refl (S:=[b]) (B:=w.heap.size) w).alloc nR _).trans a1 (by simp);clear a1
 cases ht:R nx with
 | err c0 a0=>
  rw [ht] at hres;obtain rfl:e=_:=hres;exact ⟨rfl,Post.fail (by unfold Ps.fromLeft;rw [ht];rfl) A1⟩
 | ok e0 n1=>
  rw [ht] at hres;obtain ⟨dx,h1,_,rfl,x0,rfl,cv⟩:=hres;have aw:Hid (Ps.fromLeft I R a c nx=Ps.more I R a c (I.L.length-n1) e0 n1):=by
   show Ps.fromLeft I R a c nx=_
   unfold Ps.fromLeft;rw [ht];rfl
  clear ht;go_wp2;go_loopg [10] (I.L.length-n1) (fun k v wr=>∃ (n:Nat) (y:ExV) (e:Ex),I.L.length<=n+k/\nx<=n/\HEx (fun i=>w.heap.size<i/\i≠w1.heap.size) wr y.cells e/\Rd wr b g cap I.L I.len n op/\Aside [b] w.heap.size w wr /\
    wr.heap[w.heap.size]?=some (.cells #[.int .i64 0,.int .i64 0,.int .i64 0,.string ⟨#[]⟩,.slice none 0 0,.slice none 0 0] 54 (0,0)) /\
    wr.heap[w1.heap.size]?=some (.cells #[.int .i64 y.op,.int .i64 y.k,.int .i64 y.n,.string y.name,.slice y.aS y.nS y.cS,.slice y.aL y.nL y.cL] 54 (0,0))/\Hid (Ps.fromLeft I R a c nx=Ps.more I R a c k e n))
  case atStart=>exact ⟨n1,x0,e0,by omega,dx,(cv.wide (ok':=fun i=>w.heap.size<i/\i≠w1.heap.size) (fun i hi hl=>⟨by simp at hi;omega,by omega⟩)).under ((Below.refl _ w1).alloc nR _),h1.alloc _,A1.alloc (by omega) _,kA cJ _,zAC _ _,aw⟩
  case round=>
   clear aw A1 cJ h1 cv;obtain ⟨n,y,e,hn,ii,he,nZ,has,hA,hB,aw⟩:=hrel;have zA:=zAB hA;have zB:=zAB hB;go_wp2_with fail;refine (betweenI nZ a c).mono ?_;rintro r w2 ⟨rfl,b2⟩;obtain ⟨kk,nK⟩:=nmQ (btw a c (I.pk n).text);rw [<-nK];have HK:=zAA nK;have z2:=b2.size;have cH:=(aside b2 (S:=[])).keep hA (zAB hA) (by simp);have jl:=(aside b2 (S:=[])).keep hB (zAB hB) (by simp);have bM:=he.under b2;have h2:=nZ.below b2;have A2:=has.trans (aside b2) has.size;clear nK hA hB he nZ has b2;by_cases hz:kk=0
   ·have eG:=more_stop (R:=R) (e:=e) (HK.out.symm.trans hz) gk
    have uv:=zAA eG;clear eG;subst hz;have bw:=co jl 0;have bz:=co jl 1;have bv:=co jl 2;have bU:=co jl 3;have bT:=co jl 4;have dm:=co jl 5;simp at bw bz bv bU bT dm;have fa:=fun o=>fo cH o;have aB:=co cH 0;have ay:=co cH 1;have az:=co cH 2;have aF:=co cH 3;have aD:=co cH 4;have aH:=co cH 5;simp at aB ay az aF aD aH;go_wp2;refine bodyPost_ret (v:=.agg #[.int .i64 y.op,.int .i64 y.k,.int .i64 y.n,.string y.name,.slice y.aS y.nS y.cS,.slice y.aL y.nL y.cL]) (by simp [results,Tryz.results255,go_sem,aB,ay,az,aF,aD,aH]) rfl ?_;exact Post.good (by rw [aw.out,uv.out]) (A2.put6 (k:=w.heap.size) nR y) ii (h2.put6 (k:=w.heap.size) (by omega) (by omega) y) ⟨y,rfl,(bM.put6 (k:=w.heap.size) (by simp) y).wide (fun i hi _=>Nat.le_of_lt hi.1)⟩
   ·have Oc:(kk==0)=false:=beq_eq_false_iff_ne.2 hz
    have ak:n<I.L.length:=btw_lt (a:=a) (c:=c) (by rw [<-HK.out];exact hz);obtain ⟨f,rfl⟩:∃ f,gk=f+1:=⟨gk-1,by omega⟩;have eG:=zAA (aw.out.trans (more_step (R:=R) (e:=e) (a:=a) (c:=c) (n:=n) (by rw [<-HK.out];exact hz) f));rw [<-HK.out] at eG;clear aw;go_wp2_with fail;refine (zAj h2 ak).mono ?_;rintro r w3 ⟨rfl,h3,a3⟩;have lg:=a3.keep cH (zAB cH) (by simp;omega);have og:=a3.keep jl (zAB jl) (by simp;omega);have iD:=bM.past a3 (fun i hi=>by simp;omega);have A3:=A2.trans a3 (by omega);have z3:=a3.size;clear cH jl bM h2 A2 a3;go_wp2_with fail;have nM:Rd w3.drew b g cap I.L I.len (n+1) op:=h3.drew;have eB:w3.drew.heap[w.heap.size]?=some (.cells #[.int .i64 0,.int .i64 0,.int .i64 0,.string ⟨#[]⟩,.slice none 0 0,.slice none 0 0] 54 (0,0)):=lg;have dZ:w3.drew.heap[w1.heap.size]?=some (.cells #[.int .i64 y.op,.int .i64 y.k,.int .i64 y.n,.string y.name,.slice y.aS y.nS y.cS,.slice y.aL y.nL y.cL] 54 (0,0)):=og;have iz:HEx (fun i=>w.heap.size<i/\i≠w1.heap.size) w3.drew y.cells e:=iD.under (Below.refl _ w3).drew;have A4:=A3.drew;have z4:w3.drew.heap.size=w3.heap.size:=rfl;refine zAE (fun w'=>w'.cell? ⟨w1.heap.size,0,none⟩=some (.int .i64 y.op)/\w'.cell? ⟨w1.heap.size,1,none⟩=some (.int .i64 y.k)/\w'.cell? ⟨w1.heap.size,2,none⟩=some (.int .i64 y.n)/\w'.cell? ⟨w1.heap.size,3,none⟩=some (.string y.name)/\w'.cell? ⟨w1.heap.size,4,none⟩=some (.slice y.aS y.nS y.cS)/\w'.cell? ⟨w1.heap.size,5,none⟩=some (.slice y.aL y.nL y.cL)) (fun j=>decide (j=5)) (by kernel_rfl) ?_;generalize w3.drew=wd at nM eB dZ iz A4 z4 ⊢;clear h3 lg og iD A3;have bw:=co dZ 0;have bz:=co dZ 1;have bv:=co dZ 2;have bU:=co dZ 3;have bT:=co dZ 4;have dm:=co dZ 5;simp at bw bz bv bU bT dm;have hH:=And.intro bw (And.intro bz (And.intro bv (And.intro bU (And.intro bT dm))));refine' tjQ 0 hH ?hyv ?o1
    case hyv=>
     intro wz ae;obtain ⟨c0,c1,c2,c3,c4,c5⟩:=ae;go_simp
     try rfl
    try simp only [Act.put,sT,sZ,sS]
    refine' tjQ 1 hH ?hyv ?o2
    case hyv=>
     intro wz ae;obtain ⟨c0,c1,c2,c3,c4,c5⟩:=ae;go_simp
     try rfl
    try simp only [Act.put,sT,sZ,sS]
    refine' tjQ 2 hH ?hyv ?o3
    case hyv=>
     intro wz ae;obtain ⟨c0,c1,c2,c3,c4,c5⟩:=ae;go_simp
     try rfl
    try simp only [Act.put,sT,sZ,sS]
    refine tnQ 3 (fun K hK=>?_);go_simp;refine (HR _ _ nM (hG.far A4)).mono ?_;rintro r w5 ⟨a5,hres⟩;have A5:=A4.trans a5 A4.size;have z5:=a5.size;have jt:=a5.keep eB (by omega) (by simp;omega);have ei:=a5.keep dZ (by omega) (by simp;omega);have kM:=iz.past a5 (fun i hi=>by simp;omega);clear eB dZ iz A4 a5 nM hH bw bz bv bU bT dm
    cases ht:R (n+1) with
    | err c0 a0=>
     rw [ht] at hres;obtain rfl:r=_:=hres;exact ⟨rfl,Post.fail (by rw [eG.out,ht];rfl) A5⟩
    | ok e6 n6=>
     rw [ht] at hres;obtain ⟨ym,h5,_,rfl,x6,rfl,ix⟩:=hres;have aw:Hid (Ps.fromLeft I R a c nx=Ps.more I R a c f (.mk 5 kk 0 ⟨#[]⟩ [] [e,e6]) n6):=by
      show Ps.fromLeft I R a c nx=_
      rw [eG.out,ht];rfl
     clear eG ht;have qp:=ix.wide (ok':=fun i=>w.heap.size<i/\i≠w1.heap.size) (fun i hi _=>by omega);have bw:=co ei 0;have bz:=co ei 1;have bv:=co ei 2;have bU:=co ei 3;have bT:=co ei 4;have dm:=co ei 5;simp at bw bz bv bU bT dm;have hH:=And.intro bw (And.intro bz (And.intro bv (And.intro bU (And.intro bT dm))));refine hK.out _ _ (fun _=>hH) ?_;clear hK K
     try simp only [Act.put,sT,sZ,sS]
     refine tnQ 4 (fun K hK=>?_);go_simp;refine (pair_any kk kM qp (fun i hi=>by omega)).mono ?_;rintro r w8 ⟨z,rfl,wH,b8⟩;have z8:=b8.size;have A8:=A5.trans (aside b8) A5.size;have rh:=(aside b8 (S:=[])).keep jt (zAB jt) (by simp);have lX:=(aside b8 (S:=[])).keep ei (zAB ei) (by simp);have h8:=h5.below b8;clear jt ei kM ix qp A5 b8 h5 hH bw bz bv bU bT dm;have bw:=co lX 0;have bz:=co lX 1;have bv:=co lX 2;have bU:=co lX 3;have bT:=co lX 4;have dm:=co lX 5;simp at bw bz bv bU bT dm;have hH:=And.intro bw (And.intro bz (And.intro bv (And.intro bU (And.intro bT dm))));have fB:=fun o=>fo lX o;refine hK.out _ _ (fun _=>hH) ?_;clear hK K
     try simp only [Act.put,sT,sZ,sS]
     refine tnQ 5 (fun K hK=>?_);go_simp;refine hK.out _ _ (fun h=>by cases h) ?_;clear hK K
     try simp only [Act.put,sT,sZ,sS]
     refine zAF (by kernel_rfl) ?_ _;go_wp2_with fail;go_roundg f
     case measure=>omega
     case rel=>exact ⟨n6,z,_,by omega,by omega,wH.put6 (k:=w1.heap.size) (by simp) z,h8.put6 (k:=w1.heap.size) (by omega) (by omega) z,A8.put6 (k:=w1.heap.size) (by omega) z,keep6 rh (by omega) z,put6_in lX z,aw⟩
theorem product_any {b g cap:Nat} {I:Inp} {op:Nat} {R:Nat->Res Ex} (HR:Does 269 b g cap I op exV R):Does 268 b g cap I op exV (Ps.fromLeft I R 3 5):=by
 intro nx w h hG;have hb:=h.bb;have hg:=h.gb;have oc:=zBi;go_enter Tryz.func268,Tryz.ntmps268;go_wp2_with fail;refine (zBS (a:=3) (c:=5) HR enter119 (h.alloc _) (hG.alloc _)).mono ?_;rintro e w1 ⟨a1,hres⟩;have z1:w.heap.size+1<=w1.heap.size:=(by simpa using a1.size);have cJ:=a1.keep (zAC w _) (by simp) (by simp;omega);have A1:=((Aside.refl (S:=[b]) (B:=w.heap.size) w).alloc nR _).trans a1 (by simp)
 cases ht:Ps.fromLeft I R 3 5 nx with
 | err c0 a0=>
  rw [ht] at hres;obtain rfl:e=_:=hres;exact ⟨rfl,Post.fail rfl A1⟩
 | ok e0 n1=>
  rw [ht] at hres;obtain ⟨dx,h1,_,rfl,y,rfl,cv⟩:=hres;have HT:=zAA ht;clear ht;have fa:=fun o=>fo cJ o;have aB:=co cJ 0;have ay:=co cJ 1;have az:=co cJ 2;have aF:=co cJ 3;have aD:=co cJ 4;have aH:=co cJ 5;simp at aB ay az aF aD aH;have bM:=cv.wide (ok':=fun i=>w.heap.size<i) (fun i hi hl=>by simp at hi;omega);go_wp2;refine bodyPost_ret (v:=.agg #[.int .i64 y.op,.int .i64 y.k,.int .i64 y.n,.string y.name,.slice y.aS y.nS y.cS,.slice y.aL y.nL y.cL]) (by simp [results,Tryz.results268,go_sem,aB,ay,az,aF,aD,aH]) rfl ?_;exact Post.good HT.out (A1.put6 (k:=w.heap.size) nR y) dx (h1.put6 (k:=w.heap.size) (by omega) (by omega) y) ⟨y,rfl,(bM.put6 (k:=w.heap.size) (by simp) y).wide (fun i hi _=>Nat.le_of_lt hi)⟩
theorem sum_any {b g cap:Nat} {I:Inp} {op:Nat} {R:Nat->Res Ex} (HR:Does 268 b g cap I op exV R):Does 267 b g cap I op exV (Ps.fromLeft I R 1 2):=by
 intro nx w h hG;have hb:=h.bb;have hg:=h.gb;have oc:=zBi;go_enter Tryz.func267,Tryz.ntmps267;go_wp2_with fail;refine (zBS (a:=1) (c:=2) HR enter118 (h.alloc _) (hG.alloc _)).mono ?_;rintro e w1 ⟨a1,hres⟩;have z1:w.heap.size+1<=w1.heap.size:=(by simpa using a1.size);have cJ:=a1.keep (zAC w _) (by simp) (by simp;omega);have A1:=((Aside.refl (S:=[b]) (B:=w.heap.size) w).alloc nR _).trans a1 (by simp)
 cases ht:Ps.fromLeft I R 1 2 nx with
 | err c0 a0=>
  rw [ht] at hres;obtain rfl:e=_:=hres;exact ⟨rfl,Post.fail rfl A1⟩
 | ok e0 n1=>
  rw [ht] at hres;obtain ⟨dx,h1,_,rfl,y,rfl,cv⟩:=hres;have HT:=zAA ht;clear ht;have fa:=fun o=>fo cJ o;have aB:=co cJ 0;have ay:=co cJ 1;have az:=co cJ 2;have aF:=co cJ 3;have aD:=co cJ 4;have aH:=co cJ 5;simp at aB ay az aF aD aH;have bM:=cv.wide (ok':=fun i=>w.heap.size<i) (fun i hi hl=>by simp at hi;omega);go_wp2;refine bodyPost_ret (v:=.agg #[.int .i64 y.op,.int .i64 y.k,.int .i64 y.n,.string y.name,.slice y.aS y.nS y.cS,.slice y.aL y.nL y.cL]) (by simp [results,Tryz.results267,go_sem,aB,ay,az,aF,aD,aH]) rfl ?_;exact Post.good HT.out (A1.put6 (k:=w.heap.size) nR y) dx (h1.put6 (k:=w.heap.size) (by omega) (by omega) y) ⟨y,rfl,(bM.put6 (k:=w.heap.size) (by simp) y).wide (fun i hi _=>Nat.le_of_lt hi)⟩
theorem conj_any {b g cap:Nat} {I:Inp} {op:Nat} {R:Nat->Res Ex} (HR:Does 264 b g cap I op exV R):Does 256 b g cap I op exV (Ps.fromLeft I R 10 10):=by
 intro nx w h hG;have hb:=h.bb;have hg:=h.gb;have oc:=zBi;go_enter Tryz.func256,Tryz.ntmps256;go_wp2_with fail;refine (zBS (a:=10) (c:=10) HR enter115 (h.alloc _) (hG.alloc _)).mono ?_;rintro e w1 ⟨a1,hres⟩;have z1:w.heap.size+1<=w1.heap.size:=(by simpa using a1.size);have cJ:=a1.keep (zAC w _) (by simp) (by simp;omega);have A1:=((Aside.refl (S:=[b]) (B:=w.heap.size) w).alloc nR _).trans a1 (by simp)
 cases ht:Ps.fromLeft I R 10 10 nx with
 | err c0 a0=>
  rw [ht] at hres;obtain rfl:e=_:=hres;exact ⟨rfl,Post.fail rfl A1⟩
 | ok e0 n1=>
  rw [ht] at hres;obtain ⟨dx,h1,_,rfl,y,rfl,cv⟩:=hres;have HT:=zAA ht;clear ht;have fa:=fun o=>fo cJ o;have aB:=co cJ 0;have ay:=co cJ 1;have az:=co cJ 2;have aF:=co cJ 3;have aD:=co cJ 4;have aH:=co cJ 5;simp at aB ay az aF aD aH;have bM:=cv.wide (ok':=fun i=>w.heap.size<i) (fun i hi hl=>by simp at hi;omega);go_wp2;refine bodyPost_ret (v:=.agg #[.int .i64 y.op,.int .i64 y.k,.int .i64 y.n,.string y.name,.slice y.aS y.nS y.cS,.slice y.aL y.nL y.cL]) (by simp [results,Tryz.results256,go_sem,aB,ay,az,aF,aD,aH]) rfl ?_;exact Post.good HT.out (A1.put6 (k:=w.heap.size) nR y) dx (h1.put6 (k:=w.heap.size) (by omega) (by omega) y) ⟨y,rfl,(bM.put6 (k:=w.heap.size) (by simp) y).wide (fun i hi _=>Nat.le_of_lt hi)⟩
theorem expr_any {b g cap:Nat} {I:Inp} {op:Nat} {R:Nat->Res Ex} (HR:Does 256 b g cap I op exV R):Does 245 b g cap I op exV (Ps.fromLeft I R 11 12):=by
 intro nx w h hG;have hb:=h.bb;have hg:=h.gb;have oc:=zBi;go_enter Tryz.func245,Tryz.ntmps245;go_wp2_with fail;refine (zBS (a:=11) (c:=12) HR enter112 (h.alloc _) (hG.alloc _)).mono ?_;rintro e w1 ⟨a1,hres⟩;have z1:w.heap.size+1<=w1.heap.size:=(by simpa using a1.size);have cJ:=a1.keep (zAC w _) (by simp) (by simp;omega);have A1:=((Aside.refl (S:=[b]) (B:=w.heap.size) w).alloc nR _).trans a1 (by simp)
 cases ht:Ps.fromLeft I R 11 12 nx with
 | err c0 a0=>
  rw [ht] at hres;obtain rfl:e=_:=hres;exact ⟨rfl,Post.fail rfl A1⟩
 | ok e0 n1=>
  rw [ht] at hres;obtain ⟨dx,h1,_,rfl,y,rfl,cv⟩:=hres;have HT:=zAA ht;clear ht;have fa:=fun o=>fo cJ o;have aB:=co cJ 0;have ay:=co cJ 1;have az:=co cJ 2;have aF:=co cJ 3;have aD:=co cJ 4;have aH:=co cJ 5;simp at aB ay az aF aD aH;have bM:=cv.wide (ok':=fun i=>w.heap.size<i) (fun i hi hl=>by simp at hi;omega);go_wp2;refine bodyPost_ret (v:=.agg #[.int .i64 y.op,.int .i64 y.k,.int .i64 y.n,.string y.name,.slice y.aS y.nS y.cS,.slice y.aL y.nL y.cL]) (by simp [results,Tryz.results245,go_sem,aB,ay,az,aF,aD,aH]) rfl ?_;exact Post.good HT.out (A1.put6 (k:=w.heap.size) nR y) dx (h1.put6 (k:=w.heap.size) (by omega) (by omega) y) ⟨y,rfl,(bM.put6 (k:=w.heap.size) (by simp) y).wide (fun i hi _=>Nat.le_of_lt hi)⟩
theorem cmp_any {b g cap:Nat} {I:Inp} {op:Nat} {R:Nat->Res Ex} (HR:Does 267 b g cap I op exV R):Does 264 b g cap I op exV (Ps.cmp I R):=by
 intro nx w h hG;have hb:=h.bb;have hg:=h.gb;go_enter Tryz.func264,Tryz.ntmps264;go_wp2_with fail;refine (HR _ _ (h.alloc _) (hG.alloc _)).mono ?_;rintro e w1 ⟨a1,hres⟩;have z1:w.heap.size+1<=w1.heap.size:=(by simpa using a1.size);have cJ:=a1.keep (zAC w _) (by simp) (by simp;omega);have A1:=((Aside.refl (S:=[b]) (B:=w.heap.size) w).alloc nR _).trans a1 (by simp);clear a1
 cases ht:R nx with
 | err c0 a0=>
  rw [ht] at hres;obtain rfl:e=_:=hres;exact ⟨rfl,Post.fail (by unfold Ps.cmp;rw [ht];rfl) A1⟩
 | ok e0 n1=>
  rw [ht] at hres;obtain ⟨dx,h1,_,rfl,y,rfl,cv⟩:=hres;have aw:Hid (Ps.cmp I R nx=if btw 8 9 (I.pk n1).text=0 then .ok e0 n1 else (R (n1+1)).bind fun r n2=>.ok (.mk 5 (btw 8 9 (I.pk n1).text) 0 ⟨#[]⟩ [] [e0,r]) n2):=by
   show Ps.cmp I R nx=_
   unfold Ps.cmp;rw [ht];rfl
  clear ht;have he:=(cv.wide (ok':=fun i=>w.heap.size<i/\i≠w1.heap.size) (fun i hi hl=>⟨by simp at hi;omega,by omega⟩)).under ((Below.refl _ w1).alloc nR (.cells #[.int .i64 y.op,.int .i64 y.k,.int .i64 y.n,.string y.name,.slice y.aS y.nS y.cS,.slice y.aL y.nL y.cL] 54 (0,0)));have nZ:=h1.alloc (.cells #[.int .i64 y.op,.int .i64 y.k,.int .i64 y.n,.string y.name,.slice y.aS y.nS y.cS,.slice y.aL y.nL y.cL] 54 (0,0));have has:=A1.alloc (by omega) (.cells #[.int .i64 y.op,.int .i64 y.k,.int .i64 y.n,.string y.name,.slice y.aS y.nS y.cS,.slice y.aL y.nL y.cL] 54 (0,0));have hA:=kA cJ (.cells #[.int .i64 y.op,.int .i64 y.k,.int .i64 y.n,.string y.name,.slice y.aS y.nS y.cS,.slice y.aL y.nL y.cL] 54 (0,0));have hB:=zAC w1 (.cells #[.int .i64 y.op,.int .i64 y.k,.int .i64 y.n,.string y.name,.slice y.aS y.nS y.cS,.slice y.aL y.nL y.cL] 54 (0,0));have zz:(w1.alloc (.cells #[.int .i64 y.op,.int .i64 y.k,.int .i64 y.n,.string y.name,.slice y.aS y.nS y.cS,.slice y.aL y.nL y.cL] 54 (0,0))).heap.size=w1.heap.size+1:=(by simp);clear h1 A1 cJ cv;go_wp2_with fail;generalize w1.alloc (.cells #[.int .i64 y.op,.int .i64 y.k,.int .i64 y.n,.string y.name,.slice y.aS y.nS y.cS,.slice y.aL y.nL y.cL] 54 (0,0))=wr at he nZ has hA hB zz ⊢;refine (betweenI nZ 8 9).mono ?_;rintro r w2 ⟨rfl,b2⟩;obtain ⟨kk,nK⟩:=nmQ (btw 8 9 (I.pk n1).text);rw [<-nK];have HK:=zAA nK;have z2:=b2.size;have cH:=(aside b2 (S:=[])).keep hA (zAB hA) (by simp);have jl:=(aside b2 (S:=[])).keep hB (zAB hB) (by simp);have bM:=he.under b2;have h2:=nZ.below b2;have A2:=has.trans (aside b2) has.size;clear nK hA hB he nZ has b2;by_cases hz:kk=0
  ·have uv:Hid (Ps.cmp I R nx=.ok e0 n1):=by
    show Ps.cmp I R nx=_
    rw [aw.out,<-HK.out,if_pos hz]
   subst hz;have bw:=co jl 0;have bz:=co jl 1;have bv:=co jl 2;have bU:=co jl 3;have bT:=co jl 4;have dm:=co jl 5;simp at bw bz bv bU bT dm;have fa:=fun o=>fo cH o;have aB:=co cH 0;have ay:=co cH 1;have az:=co cH 2;have aF:=co cH 3;have aD:=co cH 4;have aH:=co cH 5;simp at aB ay az aF aD aH;go_wp2;refine bodyPost_ret (v:=.agg #[.int .i64 y.op,.int .i64 y.k,.int .i64 y.n,.string y.name,.slice y.aS y.nS y.cS,.slice y.aL y.nL y.cL]) (by simp [results,Tryz.results264,go_sem,aB,ay,az,aF,aD,aH]) rfl ?_;exact Post.good uv.out (A2.put6 (k:=w.heap.size) nR y) dx (h2.put6 (k:=w.heap.size) (by omega) (by omega) y) ⟨y,rfl,(bM.put6 (k:=w.heap.size) (by simp) y).wide (fun i hi _=>Nat.le_of_lt hi.1)⟩
  ·have Oc:(kk==0)=false:=beq_eq_false_iff_ne.2 hz
   have ak:n1<I.L.length:=btw_lt (a:=8) (c:=9) (by rw [<-HK.out];exact hz);have eG:Hid (Ps.cmp I R nx=(R (n1+1)).bind fun r n2=>.ok (.mk 5 kk 0 ⟨#[]⟩ [] [e0,r]) n2):=by
    show Ps.cmp I R nx=_
    rw [aw.out,<-HK.out,if_neg hz]
   clear aw;go_wp2_with fail;refine (zAj h2 ak).mono ?_;rintro r w3 ⟨rfl,h3,a3⟩;have lg:=a3.keep cH (zAB cH) (by simp;omega);have og:=a3.keep jl (zAB jl) (by simp;omega);have iD:=bM.past a3 (fun i hi=>by simp;omega);have A3:=A2.trans a3 (by omega);have z3:=a3.size;clear cH jl bM h2 A2 a3;go_wp2_with fail;have nM:Rd w3.drew b g cap I.L I.len (n1+1) op:=h3.drew;have eB:w3.drew.heap[w.heap.size]?=some (.cells #[.int .i64 0,.int .i64 0,.int .i64 0,.string ⟨#[]⟩,.slice none 0 0,.slice none 0 0] 54 (0,0)):=lg;have dZ:w3.drew.heap[w1.heap.size]?=some (.cells #[.int .i64 y.op,.int .i64 y.k,.int .i64 y.n,.string y.name,.slice y.aS y.nS y.cS,.slice y.aL y.nL y.cL] 54 (0,0)):=og;have iz:HEx (fun i=>w.heap.size<i/\i≠w1.heap.size) w3.drew y.cells e0:=iD.under (Below.refl _ w3).drew;have A4:=A3.drew;have z4:w3.drew.heap.size=w3.heap.size:=rfl;refine zAE (fun w'=>w'.cell? ⟨w1.heap.size,0,none⟩=some (.int .i64 y.op)/\w'.cell? ⟨w1.heap.size,1,none⟩=some (.int .i64 y.k)/\w'.cell? ⟨w1.heap.size,2,none⟩=some (.int .i64 y.n)/\w'.cell? ⟨w1.heap.size,3,none⟩=some (.string y.name)/\w'.cell? ⟨w1.heap.size,4,none⟩=some (.slice y.aS y.nS y.cS)/\w'.cell? ⟨w1.heap.size,5,none⟩=some (.slice y.aL y.nL y.cL)) (fun j=>decide (j=5)) (by kernel_rfl) ?_;generalize w3.drew=wd at nM eB dZ iz A4 z4 ⊢;clear h3 lg og iD A3;have bw:=co dZ 0;have bz:=co dZ 1;have bv:=co dZ 2;have bU:=co dZ 3;have bT:=co dZ 4;have dm:=co dZ 5;simp at bw bz bv bU bT dm;have hH:=And.intro bw (And.intro bz (And.intro bv (And.intro bU (And.intro bT dm))));refine' tjQ 0 hH ?hyv ?o1
   case hyv=>
    intro wz ae;obtain ⟨c0,c1,c2,c3,c4,c5⟩:=ae;go_simp
    try rfl
   try simp only [Act.put,sT,sZ,sS]
   refine' tjQ 1 hH ?hyv ?o2
   case hyv=>
    intro wz ae;obtain ⟨c0,c1,c2,c3,c4,c5⟩:=ae;go_simp
    try rfl
   try simp only [Act.put,sT,sZ,sS]
   refine' tjQ 2 hH ?hyv ?o3
   case hyv=>
    intro wz ae;obtain ⟨c0,c1,c2,c3,c4,c5⟩:=ae;go_simp
    try rfl
   try simp only [Act.put,sT,sZ,sS]
   refine tnQ 3 (fun K hK=>?_);go_simp;refine (HR _ _ nM (hG.far A4)).mono ?_;rintro r w5 ⟨a5,hres⟩;have A5:=A4.trans a5 A4.size;have z5:=a5.size;have jt:=a5.keep eB (by omega) (by simp;omega);have ei:=a5.keep dZ (by omega) (by simp;omega);have kM:=iz.past a5 (fun i hi=>by simp;omega);clear eB dZ iz A4 a5 nM hH bw bz bv bU bT dm
   cases ht:R (n1+1) with
   | err c0 a0=>
    rw [ht] at hres;obtain rfl:r=_:=hres;exact ⟨rfl,Post.fail (by rw [eG.out,ht];rfl) A5⟩
   | ok e6 n6=>
    rw [ht] at hres;obtain ⟨ym,h5,_,rfl,x6,rfl,ix⟩:=hres;have aw:Hid (Ps.cmp I R nx=.ok (.mk 5 kk 0 ⟨#[]⟩ [] [e0,e6]) n6):=by
     show Ps.cmp I R nx=_
     rw [eG.out,ht];rfl
    clear eG ht;have qp:=ix.wide (ok':=fun i=>w.heap.size<i/\i≠w1.heap.size) (fun i hi _=>by omega);have bw:=co ei 0;have bz:=co ei 1;have bv:=co ei 2;have bU:=co ei 3;have bT:=co ei 4;have dm:=co ei 5;simp at bw bz bv bU bT dm;have hH:=And.intro bw (And.intro bz (And.intro bv (And.intro bU (And.intro bT dm))));refine hK.out _ _ (fun _=>hH) ?_;clear hK K
    try simp only [Act.put,sT,sZ,sS]
    refine tnQ 4 (fun K hK=>?_);go_simp;refine (pair_any kk kM qp (fun i hi=>by omega)).mono ?_;rintro r w8 ⟨z,rfl,wH,b8⟩;have z8:=b8.size;have A8:=A5.trans (aside b8) A5.size;have rh:=(aside b8 (S:=[])).keep jt (zAB jt) (by simp);have lX:=(aside b8 (S:=[])).keep ei (zAB ei) (by simp);have h8:=h5.below b8;clear jt ei kM ix qp A5 b8 h5 hH bw bz bv bU bT dm;have bw:=co lX 0;have bz:=co lX 1;have bv:=co lX 2;have bU:=co lX 3;have bT:=co lX 4;have dm:=co lX 5;simp at bw bz bv bU bT dm;have hH:=And.intro bw (And.intro bz (And.intro bv (And.intro bU (And.intro bT dm))));have fA:=fun o=>fo rh o;have aB:=co rh 0;have ay:=co rh 1;have az:=co rh 2;have aF:=co rh 3;have aD:=co rh 4;have aH:=co rh 5;simp at aB ay az aF aD aH;refine hK.out _ _ (fun _=>hH) ?_;clear hK K
    try simp only [Act.put,sT,sZ,sS]
    refine tnQ 5 (fun K hK=>?_);go_simp;refine hK.out _ _ (fun h=>by cases h) ?_;clear hK K
    try simp only [Act.put,sT,sZ,sS]
    refine zAF (by kernel_rfl) ?_ _;go_wp2_with fail;refine bodyPost_ret (v:=.agg #[.int .i64 z.op,.int .i64 z.k,.int .i64 z.n,.string z.name,.slice z.aS z.nS z.cS,.slice z.aL z.nL z.cL]) (by simp [results,Tryz.results264,go_sem,aB,ay,az,aF,aD,aH]) rfl ?_;exact Post.good aw.out (A8.put6 (k:=w.heap.size) nR z) (by omega) (h8.put6 (k:=w.heap.size) (by omega) (by omega) z) ⟨z,rfl,((wH.wide (ok':=fun i=>w.heap.size<i) (fun i hi _=>hi.1)).put6 (k:=w.heap.size) (by simp) z).wide (fun i hi _=>Nat.le_of_lt hi)⟩
theorem zBZ {b g cap:Nat} {I:Inp} {op:Nat} {A:Nat->Res Ex} (HA:Does 269 b g cap I op exV A):Does 245 b g cap I op exV (Ps.exprOf I A) :=
 expr_any (conj_any (cmp_any (sum_any (product_any HA))))
end Go.Proofs.YtkfgbhlpjkkgfaaGreatDoor
