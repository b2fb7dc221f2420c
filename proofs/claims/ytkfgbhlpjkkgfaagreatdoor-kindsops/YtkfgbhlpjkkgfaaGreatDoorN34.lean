import Derived.Test.YtkfgbhlpjkkgfaaGreatDoorN33
import Derived.Test.YtkfgbhlpjkkgfaaGreatDoorN05
set_option linter.unusedVariables false
set_option linter.unusedSimpArgs false
set_option maxHeartbeats 64000000
set_option maxRecDepth 100000
namespace Go.Proofs.YtkfgbhlpjkkgfaaGreatDoor
open Go.RowKit Go.IntWalk
theorem terms_nil {ok:Nat→Prop} {w:World}:HTerms ok w (.slice none 0 0) []:=⟨fun _=>[],Sl.nil,fun i h=>absurd h (Nat.not_lt_zero _)⟩
theorem decl_any {b g cap:Nat} {I:Inp} {op:Nat}:Does 144 b g cap I op dcV (Ps.decl I):=by
 intro nx w h hG;have hb:=h.bb;have hg:=h.gb;go_enter Tryz.func144,Tryz.ntmps144;go_wp2_with fail;refine (name_any (h.alloc _)).mono ?_;rintro e w1 ⟨a1,hres⟩;have z1:w.heap.size+1≤w1.heap.size:=(by simpa using a1.size);have A1:=((Aside.refl (S:=[b]) (B:=w.heap.size) w).alloc nR _).trans a1 (by simp)
 cases hn:Ps.name I nx with
 | err c a=>
  rw [hn] at hres;obtain rfl:e=_:=hres;exact ⟨rfl,Post.fail (by unfold Ps.decl;rw [hn];rfl) A1⟩
 | ok s n1=>
  rw [hn] at hres;obtain ⟨le1,h1,_,rfl,rfl⟩:=hres;have hA1:=a1.keep (heap_new w _) (by simp) (by simp;omega);have HN:=hide hn;clear hn;go_wp2_with fail;refine (need_any (h1.alloc _) ⟨#[58]⟩ (by decide)).mono ?_;rintro e w2 ⟨a2,hres⟩;have z2:w1.heap.size+1≤w2.heap.size:=(by simpa using a2.size);have A2:=(A1.alloc (by omega) _).trans a2 (by simp;omega);have hB2:=a2.keep (heap_new w1 _) (by simp) (by simp;omega);have hA2:=a2.keep (kA hA1 _) (by simp;omega) (by simp;omega);have es:(⟨#[58]⟩:ByteArray).data.toList=[58]:=rfl;rw [es] at hres;clear es hA1 a1 a2 A1
  cases hn:Ps.need I [58] n1 with
  | err c a=>
   rw [hn] at hres;obtain rfl:e=_:=hres;exact ⟨rfl,Post.fail (by unfold Ps.decl;rw [HN.out];simp only [Res.bind];rw [hn]) A2⟩
  | ok u n2=>
   rw [hn] at hres;obtain ⟨le2,h2,_,rfl,rfl⟩:=hres;have hmod:Hid (Ps.decl I nx=if Ps.sees I [105,110,116] n2=true then Ps.declN I s 105 (n2+1) else if Ps.sees I [98,111,111,108] n2=true then Ps.declN I s 98 (n2+1) else Ps.refuse I n2):=by
    show Ps.decl I nx=_
    unfold Ps.decl;rw [HN.out];simp only [Res.bind];rw [hn]
   clear HN hn h1;go_wp2_with fail;refine (take_any h2 ⟨#[105,110,116]⟩ (by decide)).mono ?_;rintro e w3 ⟨rfl,h3,a3⟩;have z3:=a3.size;have A3:=A2.trans a3 (by omega);have hA3:=a3.keep hA2 (by omega) (by simp;omega);have hB3:=a3.keep hB2 (by omega) (by simp;omega);have es:(⟨#[105,110,116]⟩:ByteArray).data.toList=[105,110,116]:=rfl;rw [es] at h3;simp only [es];clear es hA2 hB2 a3 A2 h2
   cases hq:Ps.sees I [105,110,116] n2 with
   | true=>
    rw [hq] at h3;simp only [if_true] at h3;have hmodN:Hid (Ps.decl I nx=Ps.declN I s 105 (n2+1)):=by
     show Ps.decl I nx=_
     rw [hmod.out];simp [hq]
    have u1:=co hB3 1;have g1:=fo hB3 1;simp at u1;have hB5:=set_in hB3 1 (.int .u8 105);have hA5:=keep_set hA3 (p:=⟨w1.heap.size,1,none⟩) (by simp;omega) (.int .u8 105);have h5:=h3.set (p:=⟨w1.heap.size,1,none⟩) (by simp;omega) (by simp;omega) (.int .u8 105);have A5:=A3.set (p:=⟨w1.heap.size,1,none⟩) (by simp;omega) (.int .u8 105);have z5:(w3.setCell ⟨w1.heap.size,1,none⟩ (.int .u8 105)).heap.size=w3.heap.size:=(by simp [World.setCell]);simp at hB5;go_wp2_with fail;generalize w3.setCell ⟨w1.heap.size,1,none⟩ (.int .u8 105)=w5 at hB5 hA5 h5 A5 z5 ⊢;clear u1 g1 hA3 hB3 h3 A3 hmod;refine (take_any h5 ⟨#[94]⟩ (by decide)).mono ?_;rintro e w6 ⟨rfl,h6,a6⟩;have z6:=a6.size;have A6:=A5.trans a6 (by omega);have hA6:=a6.keep hA5 (by omega) (by simp;omega);have hB6:=a6.keep hB5 (by omega) (by simp;omega);have es:(⟨#[94]⟩:ByteArray).data.toList=[94]:=rfl;rw [es] at h6;simp only [es];clear es a6 A5 h5 hA5 hB5
    cases hq6:Ps.sees I [94] (n2+1) with
    | false=>
     rw [hq6] at h6;simp only [Bool.false_eq_true,if_false] at h6;have cb0:=co hB6 0;have cb1:=co hB6 1;have cb2:=co hB6 2;have ca0:=co hA6 0;have ca1:=co hA6 1;have ca2:=co hA6 2;have fA:=fun o=>fo hA6 o;simp at cb0 cb1 cb2 ca0 ca1 ca2;go_wp2;refine bodyPost_ret (v:=.agg #[.string s,.int .u8 105,.slice none 0 0]) (by simp [results,Tryz.results144,go_sem,ca0,ca1,ca2]) rfl ?_;exact Post.good (v:=⟨s,105,[]⟩) (by rw [hmodN.out];unfold Ps.declN;rw [hq6];rfl) (((A6.set (by simp) _).set (by simp) _).set (by simp) _) (by omega) (((h6.set (by simp;omega) (by simp;omega) _).set (by simp;omega) (by simp;omega) _).set (by simp;omega) (by simp;omega) _) ⟨_,_,_,rfl,terms_nil⟩
    | true=>
     rw [hq6] at h6;simp only [if_true] at h6;go_wp2_with fail;refine (size_any h6).mono ?_;rintro e w7 ⟨a7,hres⟩;have z7:=a7.size;have A7:=A6.trans a7 (by omega);have hA7:=a7.keep hA6 (by omega) (by simp;omega);have hB7:=a7.keep hB6 (by omega) (by simp;omega);clear hA6 hB6 h6 A6
     cases hn:Ps.size I (n2+1+1) with
     | err c a=>
      rw [hn] at hres;obtain rfl:e=_:=hres;exact ⟨rfl,Post.fail (by rw [hmodN.out];unfold Ps.declN;rw [hq6,if_pos rfl,hn];rfl) A7⟩
     | ok z n3=>
      rw [hn] at hres;obtain ⟨le7,h7,x7,rfl,hV⟩:=hres;obtain ⟨ad,nd,cd,rfl⟩:=HTerms.slice hV;have cb0:=co hB7 0;have cb1:=co hB7 1;have cb2:=co hB7 2;have ca0:=co hA7 0;have ca1:=co hA7 1;have ca2:=co hA7 2;have fA:=fun o=>fo hA7 o;have fB:=fun o=>fo hB7 o;simp at cb0 cb1 cb2 ca0 ca1 ca2;have hV1:=hV.wide (ok':=fun i=>w1.heap.size<i) (fun i hi _=>by omega);have HN7:=hide hn;clear hn hV;go_wp2;refine bodyPost_ret (v:=.agg #[.string s,.int .u8 105,.slice ad nd cd]) (by simp [results,Tryz.results144,go_sem,ca0,ca1,ca2]) rfl ?_;exact Post.good (v:=⟨s,105,z⟩) (by rw [hmodN.out];unfold Ps.declN;rw [hq6,if_pos rfl,HN7.out];rfl) ((((A7.set (by simp;omega) _).set (by simp) _).set (by simp) _).set (by simp) _) (by omega) ((((h7.set (by simp;omega) (by simp;omega) _).set (by simp;omega) (by simp;omega) _).set (by simp;omega) (by simp;omega) _).set (by simp;omega) (by simp;omega) _) ⟨_,_,_,rfl,((((hV1.set (by simp) _).set (by simp;omega) _).set (by simp;omega) _).set (by simp;omega) _).wide (fun i hi _=>by omega)⟩
   | false=>
    rw [hq] at h3;simp only [Bool.false_eq_true,if_false] at h3;go_wp2_with fail;refine (take_any h3 ⟨#[98,111,111,108]⟩ (by decide)).mono ?_;rintro e w4 ⟨rfl,h4,a4⟩;have z4:=a4.size;have A4:=A3.trans a4 (by omega);have hA4:=a4.keep hA3 (by omega) (by simp;omega);have hB4:=a4.keep hB3 (by omega) (by simp;omega);have es:(⟨#[98,111,111,108]⟩:ByteArray).data.toList=[98,111,111,108]:=rfl;rw [es] at h4;simp only [es];clear es hA3 hB3 a4 A3 h3
    cases hq2:Ps.sees I [98,111,111,108] n2 with
    | true=>
     rw [hq2] at h4;simp only [if_true] at h4;have hmodN:Hid (Ps.decl I nx=Ps.declN I s 98 (n2+1)):=by
      show Ps.decl I nx=_
      rw [hmod.out];simp [hq,hq2]
     have u1:=co hB4 1;have g1:=fo hB4 1;simp at u1;have hB5:=set_in hB4 1 (.int .u8 98);have hA5:=keep_set hA4 (p:=⟨w1.heap.size,1,none⟩) (by simp;omega) (.int .u8 98);have h5:=h4.set (p:=⟨w1.heap.size,1,none⟩) (by simp;omega) (by simp;omega) (.int .u8 98);have A5:=A4.set (p:=⟨w1.heap.size,1,none⟩) (by simp;omega) (.int .u8 98);have z5:(w4.setCell ⟨w1.heap.size,1,none⟩ (.int .u8 98)).heap.size=w4.heap.size:=(by simp [World.setCell]);simp at hB5;go_wp2_with fail;generalize w4.setCell ⟨w1.heap.size,1,none⟩ (.int .u8 98)=w5 at hB5 hA5 h5 A5 z5 ⊢;clear u1 g1 hA4 hB4 h4 A4 hmod;refine (take_any h5 ⟨#[94]⟩ (by decide)).mono ?_;rintro e w6 ⟨rfl,h6,a6⟩;have z6:=a6.size;have A6:=A5.trans a6 (by omega);have hA6:=a6.keep hA5 (by omega) (by simp;omega);have hB6:=a6.keep hB5 (by omega) (by simp;omega);have es:(⟨#[94]⟩:ByteArray).data.toList=[94]:=rfl;rw [es] at h6;simp only [es];clear es a6 A5 h5 hA5 hB5
     cases hq6:Ps.sees I [94] (n2+1) with
     | false=>
      rw [hq6] at h6;simp only [Bool.false_eq_true,if_false] at h6;have cb0:=co hB6 0;have cb1:=co hB6 1;have cb2:=co hB6 2;have ca0:=co hA6 0;have ca1:=co hA6 1;have ca2:=co hA6 2;have fA:=fun o=>fo hA6 o;simp at cb0 cb1 cb2 ca0 ca1 ca2;go_wp2;refine bodyPost_ret (v:=.agg #[.string s,.int .u8 98,.slice none 0 0]) (by simp [results,Tryz.results144,go_sem,ca0,ca1,ca2]) rfl ?_;exact Post.good (v:=⟨s,98,[]⟩) (by rw [hmodN.out];unfold Ps.declN;rw [hq6];rfl) (((A6.set (by simp) _).set (by simp) _).set (by simp) _) (by omega) (((h6.set (by simp;omega) (by simp;omega) _).set (by simp;omega) (by simp;omega) _).set (by simp;omega) (by simp;omega) _) ⟨_,_,_,rfl,terms_nil⟩
     | true=>
      rw [hq6] at h6;simp only [if_true] at h6;go_wp2_with fail;refine (size_any h6).mono ?_;rintro e w7 ⟨a7,hres⟩;have z7:=a7.size;have A7:=A6.trans a7 (by omega);have hA7:=a7.keep hA6 (by omega) (by simp;omega);have hB7:=a7.keep hB6 (by omega) (by simp;omega);clear hA6 hB6 h6 A6
      cases hn:Ps.size I (n2+1+1) with
      | err c a=>
       rw [hn] at hres;obtain rfl:e=_:=hres;exact ⟨rfl,Post.fail (by rw [hmodN.out];unfold Ps.declN;rw [hq6,if_pos rfl,hn];rfl) A7⟩
      | ok z n3=>
       rw [hn] at hres;obtain ⟨le7,h7,x7,rfl,hV⟩:=hres;obtain ⟨ad,nd,cd,rfl⟩:=HTerms.slice hV;have cb0:=co hB7 0;have cb1:=co hB7 1;have cb2:=co hB7 2;have ca0:=co hA7 0;have ca1:=co hA7 1;have ca2:=co hA7 2;have fA:=fun o=>fo hA7 o;have fB:=fun o=>fo hB7 o;simp at cb0 cb1 cb2 ca0 ca1 ca2;have hV1:=hV.wide (ok':=fun i=>w1.heap.size<i) (fun i hi _=>by omega);have HN7:=hide hn;clear hn hV;go_wp2;refine bodyPost_ret (v:=.agg #[.string s,.int .u8 98,.slice ad nd cd]) (by simp [results,Tryz.results144,go_sem,ca0,ca1,ca2]) rfl ?_;exact Post.good (v:=⟨s,98,z⟩) (by rw [hmodN.out];unfold Ps.declN;rw [hq6,if_pos rfl,HN7.out];rfl) ((((A7.set (by simp;omega) _).set (by simp) _).set (by simp) _).set (by simp) _) (by omega) ((((h7.set (by simp;omega) (by simp;omega) _).set (by simp;omega) (by simp;omega) _).set (by simp;omega) (by simp;omega) _).set (by simp;omega) (by simp;omega) _) ⟨_,_,_,rfl,((((hV1.set (by simp) _).set (by simp;omega) _).set (by simp;omega) _).set (by simp;omega) _).wide (fun i hi _=>by omega)⟩
    | false=>
     rw [hq2] at h4;simp only [Bool.false_eq_true,if_false] at h4;go_wp2_with fail;refine (refuse_any h4).mono ?_;rintro e w5 ⟨rfl,b5⟩;exact ⟨rfl,Post.fail (by rw [hmod.out];simp [hq,hq2];rfl) (A4.trans (aside b5) A4.size)⟩
def put6 (w:World) (k:Nat) (y:ExV):World:=(((((w.setCell ⟨k,0,none⟩ (.int .i64 y.op)).setCell ⟨k,1,none⟩ (.int .i64 y.k)).setCell ⟨k,2,none⟩ (.int .i64 y.n)).setCell ⟨k,3,none⟩ (.string y.name)).setCell ⟨k,4,none⟩ (.slice y.aS y.nS y.cS)).setCell ⟨k,5,none⟩ (.slice y.aL y.nL y.cL)
theorem put6_size (w:World) (k:Nat) (y:ExV):(put6 w k y).heap.size=w.heap.size:=by simp [put6,World.setCell]
theorem put6_block (w:World) (k:Nat) (y:ExV) (i:Nat) (h:i≠k):(put6 w k y).heap[i]?=w.heap[i]?:=by
 unfold put6;rw [Below.heap_setCell _ _ _ _ h,Below.heap_setCell _ _ _ _ h,Below.heap_setCell _ _ _ _ h,Below.heap_setCell _ _ _ _ h,Below.heap_setCell _ _ _ _ h,Below.heap_setCell _ _ _ _ h]
theorem put6_in {w:World} {k:Nat} {a b c d e f:Value} {t:TypeId} (h:w.heap[k]?=some (.cells #[a,b,c,d,e,f] t (0,0))) (y:ExV):(put6 w k y).heap[k]?=some (.cells #[.int .i64 y.op,.int .i64 y.k,.int .i64 y.n,.string y.name,.slice y.aS y.nS y.cS,.slice y.aL y.nL y.cL] t (0,0)):=by
 have:=set_in (set_in (set_in (set_in (set_in (set_in h 0 (.int .i64 y.op)) 1 (.int .i64 y.k)) 2 (.int .i64 y.n)) 3 (.string y.name)) 4 (.slice y.aS y.nS y.cS)) 5 (.slice y.aL y.nL y.cL)
 simpa [put6] using this
theorem Rd.put6 {w:World} {b g cap:Nat} {L:List Tk.Tok} {len nx op:Nat} (h:Rd w b g cap L len nx op) {k:Nat} (hb:k≠b) (hg:k≠g) (y:ExV):Rd (put6 w k y) b g cap L len nx op :=
 ⟨(put6_block _ _ _ _ hb.symm).trans h.here,h.toks.keep (put6_block _ _ _ _ hg.symm),h.apart,by rw [put6_size];exact h.gb,h.le,h.lc,h.cm⟩
theorem Aside.put6 {S:List Nat} {B:Nat} {w w':World} (h:Aside S B w w') {k:Nat} (hk:B≤k) (y:ExV):Aside S B w (put6 w' k y):=by
 unfold YtkfgbhlpjkkgfaaGreatDoor.put6;exact ((((((h.set (p:=⟨k,0,none⟩) hk _).set (p:=⟨k,1,none⟩) hk _).set (p:=⟨k,2,none⟩) hk _).set (p:=⟨k,3,none⟩) hk _).set (p:=⟨k,4,none⟩) hk _).set (p:=⟨k,5,none⟩) hk _)
theorem HEx.put6 {ok:Nat→Prop} {w:World} {cs:List Value} {e:Ex} (h:HEx ok w cs e) {k:Nat} (hk:¬ok k) (y:ExV):HEx ok (put6 w k y) cs e :=
 h.keep (by rw [put6_size];exact Nat.le_refl _) fun i hi _=>put6_block _ _ _ _ (fun e=>hk (e ▸ hi))
theorem keep6 {w:World} {k i:Nat} {x:Obj} (hx:w.heap[i]?=some x) (h:i≠k) (y:ExV):(put6 w k y).heap[i]?=some x:=(put6_block _ _ _ _ h).trans hx
theorem signOp_nil:signOp []=0:=rfl
theorem btw_lt {I:Inp} {n:Nat} {a c:Int} (h:btw a c (I.pk n).text≠0):n<I.L.length:=by
 apply Classical.byContradiction
 intro hn
 apply h
 unfold Inp.pk peekT;simp [hn,btw,signOp_nil]
theorem more_stop {I:Inp} {R:Nat→Res Ex} {a c:Int} {n:Nat} {e:Ex} (h:btw a c (I.pk n).text=0):∀ k,Ps.more I R a c k e n=.ok e n
 | 0=>rfl
 | _+1=>by simp [Ps.more,h]
theorem more_step {I:Inp} {R:Nat→Res Ex} {a c:Int} {n:Nat} {e:Ex} (h:btw a c (I.pk n).text≠0) (k:Nat):Ps.more I R a c (k+1) e n=(R (n+1)).bind fun r n1=>Ps.more I R a c k (.mk 5 (btw a c (I.pk n).text) 0 ⟨#[]⟩ [] [e,r]) n1:=by simp [Ps.more,h]
theorem betweenI {w:World} {b g cap:Nat} {I:Inp} {nx op:Nat} (h:Rd w b g cap I.L I.len nx op) (a c:Int) :
  Calls Tryz.prog 262 #[.pointer (some ⟨b,0,none⟩),.int .i64 a,.int .i64 c] w fun e w'=>e=.returned (.int .i64 (btw a c (I.pk nx).text))∧Below w.heap.size w w':=between_any h a c
theorem fromLeft_any {F b g cap:Nat} {I:Inp} {op nx:Nat} {R:Nat→Res Ex} {a c:Int} (HR:Does F b g cap I op exV R) (hent:∀ args w,(callFunc F args).run Tryz.prog w=.ok (.enter F args) w) {w:World} (h:Rd w b g cap I.L I.len nx op) (hG:GlobB b w) :
  Calls Tryz.prog 255 #[.pointer (some ⟨b,0,none⟩),.int .i64 a,.int .i64 c,.func (.func F) #[.pointer (some ⟨b,0,none⟩)] #[]] w (Post b g cap I op exV nx w (Ps.fromLeft I R a c nx)):=by
 have hb:=h.bb;have hg:=h.gb;go_enter Tryz.func255,Tryz.ntmps255;go_wp2_with fail;refine (HR _ _ (h.alloc _) (hG.alloc _)).mono ?_;rintro e w1 ⟨a1,hres⟩;have z1:w.heap.size+1≤w1.heap.size:=(by simpa using a1.size);have hA1:=a1.keep (heap_new w _) (by simp) (by simp;omega);have A1:=((Aside.refl (S:=[b]) (B:=w.heap.size) w).alloc nR _).trans a1 (by simp);clear a1
 cases ht:R nx with
 | err c0 a0=>
  rw [ht] at hres;obtain rfl:e=_:=hres;exact ⟨rfl,Post.fail (by unfold Ps.fromLeft;rw [ht];rfl) A1⟩
 | ok e0 n1=>
  rw [ht] at hres;obtain ⟨le1,h1,_,rfl,x0,rfl,he1⟩:=hres;have hmod:Hid (Ps.fromLeft I R a c nx=Ps.more I R a c (I.L.length-n1) e0 n1):=by
   show Ps.fromLeft I R a c nx=_
   unfold Ps.fromLeft;rw [ht];rfl
  clear ht;go_wp2;go_loopg [10] (I.L.length-n1) (fun k v wr=>∃ (n:Nat) (y:ExV) (e:Ex),I.L.length≤n+k∧nx≤n∧HEx (fun i=>w.heap.size<i∧i≠w1.heap.size) wr y.cells e∧Rd wr b g cap I.L I.len n op∧Aside [b] w.heap.size w wr ∧
    wr.heap[w.heap.size]?=some (.cells #[.int .i64 0,.int .i64 0,.int .i64 0,.string ⟨#[]⟩,.slice none 0 0,.slice none 0 0] 54 (0,0)) ∧
    wr.heap[w1.heap.size]?=some (.cells #[.int .i64 y.op,.int .i64 y.k,.int .i64 y.n,.string y.name,.slice y.aS y.nS y.cS,.slice y.aL y.nL y.cL] 54 (0,0))∧Hid (Ps.fromLeft I R a c nx=Ps.more I R a c k e n))
  case atStart=>exact ⟨n1,x0,e0,by omega,le1,(he1.wide (ok':=fun i=>w.heap.size<i∧i≠w1.heap.size) (fun i hi hl=>⟨by simp at hi;omega,by omega⟩)).under ((Below.refl _ w1).alloc nR _),h1.alloc _,A1.alloc (by omega) _,kA hA1 _,heap_new _ _,hmod⟩
  case round=>
   clear hmod A1 hA1 h1 he1;obtain ⟨n,y,e,hn,hle,he,hrd,has,hA,hB,hmod⟩:=hrel;have zA:=lt_of hA;have zB:=lt_of hB;go_wp2_with fail;refine (betweenI hrd a c).mono ?_;rintro r w2 ⟨rfl,b2⟩;obtain ⟨kk,hkk⟩:=nmQ (btw a c (I.pk n).text);rw [←hkk];have HK:=hide hkk;have z2:=b2.size;have hA2:=(aside b2 (S:=[])).keep hA (lt_of hA) (by simp);have hB2:=(aside b2 (S:=[])).keep hB (lt_of hB) (by simp);have he2:=he.under b2;have h2:=hrd.below b2;have A2:=has.trans (aside b2) has.size;clear hkk hA hB he hrd has b2;by_cases hz:kk=0
   ·have hst:=more_stop (R:=R) (e:=e) (HK.out.symm.trans hz) gk
    have HST:=hide hst;clear hst;subst hz;have cb0:=co hB2 0;have cb1:=co hB2 1;have cb2:=co hB2 2;have cb3:=co hB2 3;have cb4:=co hB2 4;have cb5:=co hB2 5;simp at cb0 cb1 cb2 cb3 cb4 cb5;have fa:=fun o=>fo hA2 o;have ca0:=co hA2 0;have ca1:=co hA2 1;have ca2:=co hA2 2;have ca3:=co hA2 3;have ca4:=co hA2 4;have ca5:=co hA2 5;simp at ca0 ca1 ca2 ca3 ca4 ca5;go_wp2;refine bodyPost_ret (v:=.agg #[.int .i64 y.op,.int .i64 y.k,.int .i64 y.n,.string y.name,.slice y.aS y.nS y.cS,.slice y.aL y.nL y.cL]) (by simp [results,Tryz.results255,go_sem,ca0,ca1,ca2,ca3,ca4,ca5]) rfl ?_;exact Post.good (by rw [hmod.out,HST.out]) (A2.put6 (k:=w.heap.size) nR y) hle (h2.put6 (k:=w.heap.size) (by omega) (by omega) y) ⟨y,rfl,(he2.put6 (k:=w.heap.size) (by simp) y).wide (fun i hi _=>Nat.le_of_lt hi.1)⟩
   ·have hkf:(kk==0)=false:=beq_eq_false_iff_ne.2 hz
    have hlt:n<I.L.length:=btw_lt (a:=a) (c:=c) (by rw [←HK.out];exact hz);obtain ⟨f,rfl⟩:∃ f,gk=f+1:=⟨gk-1,by omega⟩;have hst:=hide (hmod.out.trans (more_step (R:=R) (e:=e) (a:=a) (c:=c) (n:=n) (by rw [←HK.out];exact hz) f));rw [←HK.out] at hst;clear hmod;go_wp2_with fail;refine (step_any h2 hlt).mono ?_;rintro r w3 ⟨rfl,h3,a3⟩;have hA3:=a3.keep hA2 (lt_of hA2) (by simp;omega);have hB3:=a3.keep hB2 (lt_of hB2) (by simp;omega);have he3:=he2.past a3 (fun i hi=>by simp;omega);have A3:=A2.trans a3 (by omega);have z3:=a3.size;clear hA2 hB2 he2 h2 A2 a3;go_wp2_with fail;have hd3:Rd w3.drew b g cap I.L I.len (n+1) op:=h3.drew;have hA4:w3.drew.heap[w.heap.size]?=some (.cells #[.int .i64 0,.int .i64 0,.int .i64 0,.string ⟨#[]⟩,.slice none 0 0,.slice none 0 0] 54 (0,0)):=hA3;have hB4:w3.drew.heap[w1.heap.size]?=some (.cells #[.int .i64 y.op,.int .i64 y.k,.int .i64 y.n,.string y.name,.slice y.aS y.nS y.cS,.slice y.aL y.nL y.cL] 54 (0,0)):=hB3;have he4:HEx (fun i=>w.heap.size<i∧i≠w1.heap.size) w3.drew y.cells e:=he3.under (Below.refl _ w3).drew;have A4:=A3.drew;have z4:w3.drew.heap.size=w3.heap.size:=rfl;refine wp_region_late (fun w'=>w'.cell? ⟨w1.heap.size,0,none⟩=some (.int .i64 y.op)∧w'.cell? ⟨w1.heap.size,1,none⟩=some (.int .i64 y.k)∧w'.cell? ⟨w1.heap.size,2,none⟩=some (.int .i64 y.n)∧w'.cell? ⟨w1.heap.size,3,none⟩=some (.string y.name)∧w'.cell? ⟨w1.heap.size,4,none⟩=some (.slice y.aS y.nS y.cS)∧w'.cell? ⟨w1.heap.size,5,none⟩=some (.slice y.aL y.nL y.cL)) (fun j=>decide (j=5)) (by kernel_rfl) ?_;generalize w3.drew=wd at hd3 hA4 hB4 he4 A4 z4 ⊢;clear h3 hA3 hB3 he3 A3;have cb0:=co hB4 0;have cb1:=co hB4 1;have cb2:=co hB4 2;have cb3:=co hB4 3;have cb4:=co hB4 4;have cb5:=co hB4 5;simp at cb0 cb1 cb2 cb3 cb4 cb5;have hH:=And.intro cb0 (And.intro cb1 (And.intro cb2 (And.intro cb3 (And.intro cb4 cb5))));refine' wpAnyL_take (i:=0) (v:=_) rfl (by kernel_rfl) (by kernel_rfl) (by kernel_rfl) (by kernel_rfl) (fun _ _ _ h=>h) hH (by rfl) ?hyv ?o1
    case hyv=>
     intro wz hSw;obtain ⟨c0,c1,c2,c3,c4,c5⟩:=hSw;go_simp
     try rfl
    try simp only [Act.put,sT,sZ,sS]
    refine' wpAnyL_take (i:=1) (v:=_) rfl (by kernel_rfl) (by kernel_rfl) (by kernel_rfl) (by kernel_rfl) (fun _ _ _ h=>h) hH (by rfl) ?hyv ?o2
    case hyv=>
     intro wz hSw;obtain ⟨c0,c1,c2,c3,c4,c5⟩:=hSw;go_simp
     try rfl
    try simp only [Act.put,sT,sZ,sS]
    refine' wpAnyL_take (i:=2) (v:=_) rfl (by kernel_rfl) (by kernel_rfl) (by kernel_rfl) (by kernel_rfl) (fun _ _ _ h=>h) hH (by rfl) ?hyv ?o3
    case hyv=>
     intro wz hSw;obtain ⟨c0,c1,c2,c3,c4,c5⟩:=hSw;go_simp
     try rfl
    try simp only [Act.put,sT,sZ,sS]
    refine wpAnyL_one (i:=3) rfl (by kernel_rfl) (by rfl) (fun K hK=>?_);go_simp;refine (HR _ _ hd3 (hG.far A4)).mono ?_;rintro r w5 ⟨a5,hres⟩;have A5:=A4.trans a5 A4.size;have z5:=a5.size;have hA5:=a5.keep hA4 (by omega) (by simp;omega);have hB5:=a5.keep hB4 (by omega) (by simp;omega);have he5:=he4.past a5 (fun i hi=>by simp;omega);clear hA4 hB4 he4 A4 a5 hd3 hH cb0 cb1 cb2 cb3 cb4 cb5
    cases ht:R (n+1) with
    | err c0 a0=>
     rw [ht] at hres;obtain rfl:r=_:=hres;exact ⟨rfl,Post.fail (by rw [hst.out,ht];rfl) A5⟩
    | ok e6 n6=>
     rw [ht] at hres;obtain ⟨le5,h5,_,rfl,x6,rfl,he6⟩:=hres;have hmod:Hid (Ps.fromLeft I R a c nx=Ps.more I R a c f (.mk 5 kk 0 ⟨#[]⟩ [] [e,e6]) n6):=by
      show Ps.fromLeft I R a c nx=_
      rw [hst.out,ht];rfl
     clear hst ht;have he7:=he6.wide (ok':=fun i=>w.heap.size<i∧i≠w1.heap.size) (fun i hi _=>by omega);have cb0:=co hB5 0;have cb1:=co hB5 1;have cb2:=co hB5 2;have cb3:=co hB5 3;have cb4:=co hB5 4;have cb5:=co hB5 5;simp at cb0 cb1 cb2 cb3 cb4 cb5;have hH:=And.intro cb0 (And.intro cb1 (And.intro cb2 (And.intro cb3 (And.intro cb4 cb5))));refine hK.out _ _ (fun _=>hH) ?_;clear hK K
     try simp only [Act.put,sT,sZ,sS]
     refine wpAnyL_one (i:=4) rfl (by kernel_rfl) (by rfl) (fun K hK=>?_);go_simp;refine (pair_any kk he5 he7 (fun i hi=>by omega)).mono ?_;rintro r w8 ⟨z,rfl,hez,b8⟩;have z8:=b8.size;have A8:=A5.trans (aside b8) A5.size;have hA8:=(aside b8 (S:=[])).keep hA5 (lt_of hA5) (by simp);have hB8:=(aside b8 (S:=[])).keep hB5 (lt_of hB5) (by simp);have h8:=h5.below b8;clear hA5 hB5 he5 he6 he7 A5 b8 h5 hH cb0 cb1 cb2 cb3 cb4 cb5;have cb0:=co hB8 0;have cb1:=co hB8 1;have cb2:=co hB8 2;have cb3:=co hB8 3;have cb4:=co hB8 4;have cb5:=co hB8 5;simp at cb0 cb1 cb2 cb3 cb4 cb5;have hH:=And.intro cb0 (And.intro cb1 (And.intro cb2 (And.intro cb3 (And.intro cb4 cb5))));have fB:=fun o=>fo hB8 o;refine hK.out _ _ (fun _=>hH) ?_;clear hK K
     try simp only [Act.put,sT,sZ,sS]
     refine wpAnyL_one (i:=5) rfl (by kernel_rfl) (by rfl) (fun K hK=>?_);go_simp;refine hK.out _ _ (fun h=>by cases h) ?_;clear hK K
     try simp only [Act.put,sT,sZ,sS]
     refine wpAnyL_done (by kernel_rfl) ?_ _;go_wp2_with fail;go_roundg f
     case measure=>omega
     case rel=>exact ⟨n6,z,_,by omega,by omega,hez.put6 (k:=w1.heap.size) (by simp) z,h8.put6 (k:=w1.heap.size) (by omega) (by omega) z,A8.put6 (k:=w1.heap.size) (by omega) z,keep6 hA8 (by omega) z,put6_in hB8 z,hmod⟩
end Go.Proofs.YtkfgbhlpjkkgfaaGreatDoor
