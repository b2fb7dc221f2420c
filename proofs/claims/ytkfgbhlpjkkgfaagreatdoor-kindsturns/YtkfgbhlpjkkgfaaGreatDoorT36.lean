import Derived.Test.YtkfgbhlpjkkgfaaGreatDoorT35
set_option linter.unusedVariables false
set_option linter.unusedSimpArgs false
set_option maxHeartbeats 64000000
set_option maxRecDepth 100000
namespace Go.Proofs.YtkfgbhlpjkkgfaaGreatDoor
open Go.RowKit Go.IntWalk
theorem Rd.opens {w:World} {b g cap:Nat} {L:List Tk.Tok} {len nx op:Nat} (h:Rd w b g cap L len nx op) (o2:Nat) (v:Int) (hv:v=(o2:Nat)):Rd (w.setCell ⟨b,3,none⟩ (.int .i64 v)) b g cap L len nx o2:=by
 subst hv;refine ⟨?_,h.toks.keep (Below.heap_setCell _ _ _ _ (fun e=>h.apart e.symm)),h.apart,by simpa [World.setCell] using h.gb,h.le,h.lc,h.cm⟩;simp [World.setCell,Array.getElem?_modify,h.here]
theorem Rd.free {w:World} {b g cap:Nat} {L:List Tk.Tok} {len nx op:Nat} (h:Rd w b g cap L len nx op) (o:Nat):w.frozen? ⟨b,o,none⟩=false:=fo h.here o
theorem zBO {w:World} {b g cap:Nat} {I:Inp} {nx op:Nat} (h:Rd w b g cap I.L I.len nx op) (Ah:60<=op) (fv:Value) :
  Calls Tryz.prog 273 #[.pointer (some ⟨b,0,none⟩),fv] w fun e w'=>e=upE 6 (I.pk nx).place/\Aside [b] w.heap.size w w':=by
 have hb:=h.bb;have hp:=@zAT _ _ _ _ _ _ _ _ (h.alloc (.cells #[.int .i64 0,.int .i64 0,.int .i64 0,.string ⟨#[]⟩,.slice none 0 0,.slice none 0 0] 54 (0,0)));unfold Inp.pk;obtain ⟨t,ht⟩:=nmQ (peekT I.L I.len nx);rw [<-ht] at hp ⊢;unfold tokV at hp;clear ht;have hf:=fun x w=>tokF1 t x w;obtain ⟨c0,c1,c2,c3,_⟩:=(h.alloc (.cells #[.int .i64 0,.int .i64 0,.int .i64 0,.string ⟨#[]⟩,.slice none 0 0,.slice none 0 0] 54 (0,0))).cells;have hd:decide ((60:Int)<=op)=true:=(by simp;omega);go_enter Tryz.func273,Tryz.ntmps273;go_wp2_with fail;refine hp.mono ?_;rintro e w1 ⟨rfl,b1⟩;go_wp2_with fail;refine (zBC _ _ _).mono ?_;rintro e w2 ⟨rfl,rfl⟩;exact ⟨rfl,rfl,((Aside.refl w).alloc nR _).trans (aside b1) (by simp)⟩
def exO (ok0:Nat->Prop):Nat->World->Value->Ex->Prop:=fun B w x e=>∃ y:ExV,x=.agg #[.int .i64 y.op,.int .i64 y.k,.int .i64 y.n,.string y.name,.slice y.aS y.nS y.cS,.slice y.aL y.nL y.cL]/\HEx (fun i=>ok0 i\/B<=i) w y.cells e
theorem exO_of {B:Nat} {w:World} {x:Value} {e:Ex} (ok0:Nat->Prop) (h:exV B w x e):exO ok0 B w x e:=by
 obtain ⟨y,hx,he⟩:=h;exact ⟨y,hx,he.wide fun i hi _=>.inr hi⟩
theorem exV_of {B:Nat} {w:World} {x:Value} {e:Ex} (h:exO (fun _=>False) B w x e):exV B w x e:=by
 obtain ⟨y,hx,he⟩:=h;exact ⟨y,hx,he.wide fun i hi _=>hi.elim False.elim id⟩
theorem Post.mono {α:Type} {b g cap:Nat} {I:Inp} {op:Nat} {V V':Nat->World->Value->α->Prop} {nx:Nat} {w:World} {res:Res α} {r:Ending} {w':World} (hV:∀ B w x v,V B w x v->V' B w x v) (h:Post b g cap I op V nx w res r w'):Post b g cap I op V' nx w res r w':=by
 obtain ⟨h1,h2⟩:=h;refine ⟨h1,?_⟩
 cases res with
 | ok v n=>obtain ⟨a,b,x,c,d⟩:=h2;exact ⟨a,b,x,c,hV _ _ _ _ d⟩
 | err c a=>exact h2
theorem zCJ {ok0:Nat->Prop} {w:World} {b g cap:Nat} {I:Inp} {nx op F:Nat} {first pS:Array Value} {R0:Res Ex} (h:Rd w b g cap I.L I.len nx op) (bm:∀ i,ok0 i->i<w.heap.size/\i≠b) (Ah:op<60) (ak:nx<I.L.length) (lS:∀ args w,(callFunc F args).run Tryz.prog w=.ok (.enter F args) w)
  (HF:∀ w',Rd w' b g cap I.L I.len (nx+1) (op+1)->Aside [b] w.heap.size w w'->Calls Tryz.prog F (first++pS) w' (Post b g cap I (op+1) (exO ok0) (nx+1) w' R0)) :
  Calls Tryz.prog 273 #[.pointer (some ⟨b,0,none⟩),.func (.func F) first pS] w (Post b g cap I op (exO ok0) (nx+1) w R0):=by
 have hb:=h.bb;have hg:=h.gb;have h0:=h.alloc (.cells #[.int .i64 0,.int .i64 0,.int .i64 0,.string ⟨#[]⟩,.slice none 0 0,.slice none 0 0] 54 (0,0));have A0:=(Aside.refl (S:=[b]) (B:=w.heap.size) w).alloc nR (.cells #[.int .i64 0,.int .i64 0,.int .i64 0,.string ⟨#[]⟩,.slice none 0 0,.slice none 0 0] 54 (0,0));have dO:=zAC w (.cells #[.int .i64 0,.int .i64 0,.int .i64 0,.string ⟨#[]⟩,.slice none 0 0,.slice none 0 0] 54 (0,0));have zN:(w.alloc (.cells #[.int .i64 0,.int .i64 0,.int .i64 0,.string ⟨#[]⟩,.slice none 0 0,.slice none 0 0] 54 (0,0))).heap.size=w.heap.size+1:=(by simp);have hd:decide ((60:Int)<=op)=false:=(by simp;omega);go_enter Tryz.func273,Tryz.ntmps273;go_upto_region 1 with fail;generalize w.alloc (.cells #[.int .i64 0,.int .i64 0,.int .i64 0,.string ⟨#[]⟩,.slice none 0 0,.slice none 0 0] 54 (0,0))=W at h0 A0 dO zN ⊢;obtain ⟨c0,c1,c2,c3,_⟩:=h0.cells;have fb:=h0.free 3;have h1:=h0.opens (op+1) ((op:Int)+1) (by omega);have A1:Aside [b] w.heap.size w (W.setCell ⟨b,3,none⟩ (.int .i64 ((op:Int)+1))):=A0.trans (Aside.setCell (by simp) _) A0.size;have aG:=zAI dO (p:=⟨b,3,none⟩) (by simp;omega) (.int .i64 ((op:Int)+1));have z1:(W.setCell ⟨b,3,none⟩ (.int .i64 ((op:Int)+1))).heap.size=W.heap.size:=(by simp [World.setCell]);go_wp2_with fail;generalize W.setCell ⟨b,3,none⟩ (.int .i64 ((op:Int)+1))=W1 at h1 A1 aG z1 ⊢;clear c0 c1 c2 c3 fb h0 A0 dO;refine (zAj h1 ak).mono ?_;rintro e w2 ⟨rfl,h2,a2⟩;have z2:=a2.size;have A2:=A1.trans a2 A1.size;have gH:=a2.keep aG (by omega) (by simp;omega);clear a2 A1 aG h1;go_wp2_with fail;refine (HF w2 h2 A2).mono ?_;rintro e w3 ⟨a3,hres⟩;have z3:=a3.size;have A3:=A2.trans a3 A2.size;have eC:=a3.keep gH (by omega) (by simp;omega);clear a3 A2 gH h2 HF
 cases R0 with
 | err c0 a0=>
  obtain rfl:e=_:=hres;exact ⟨rfl,Post.fail rfl A3⟩
 | ok e0 n1=>
  obtain ⟨oh,h3,_,rfl,y,rfl,iD⟩:=hres;have iz:=(iD.wide (ok':=fun i=>(ok0 i\/w.heap.size<i)/\i≠w.heap.size/\i≠b/\i≠w3.heap.size) (fun i hi hl=>hi.elim (fun q=>have:=bm i q;⟨.inl q,by omega,by omega,by omega⟩) (fun q=>⟨.inr (by omega),by omega,by omega,by omega⟩))).under ((Below.refl _ w3).alloc nR (.cells #[.int .i64 y.op,.int .i64 y.k,.int .i64 y.n,.string y.name,.slice y.aS y.nS y.cS,.slice y.aL y.nL y.cL] 54 (0,0)));have h4:=h3.alloc (.cells #[.int .i64 y.op,.int .i64 y.k,.int .i64 y.n,.string y.name,.slice y.aS y.nS y.cS,.slice y.aL y.nL y.cL] 54 (0,0));have A4:=A3.alloc A3.size (.cells #[.int .i64 y.op,.int .i64 y.k,.int .i64 y.n,.string y.name,.slice y.aS y.nS y.cS,.slice y.aL y.nL y.cL] 54 (0,0));have dy:=kA eC (.cells #[.int .i64 y.op,.int .i64 y.k,.int .i64 y.n,.string y.name,.slice y.aS y.nS y.cS,.slice y.aL y.nL y.cL] 54 (0,0));have cA:=zAC w3 (.cells #[.int .i64 y.op,.int .i64 y.k,.int .i64 y.n,.string y.name,.slice y.aS y.nS y.cS,.slice y.aL y.nL y.cL] 54 (0,0));have z4:(w3.alloc (.cells #[.int .i64 y.op,.int .i64 y.k,.int .i64 y.n,.string y.name,.slice y.aS y.nS y.cS,.slice y.aL y.nL y.cL] 54 (0,0))).heap.size=w3.heap.size+1:=(by simp);obtain ⟨c0,c1,c2,c3,_⟩:=h4.cells;have fb:=h4.free 3;have f4:=fun o=>fo dy o;have aB:=co dy 0;have ay:=co dy 1;have az:=co dy 2;have aF:=co dy 3;have aD:=co dy 4;have aH:=co dy 5;simp at aB ay az aF aD aH;have bw:=co cA 0;have bz:=co cA 1;have bv:=co cA 2;have bU:=co cA 3;have bT:=co cA 4;have dm:=co cA 5;simp at bw bz bv bU bT dm;go_wp2;have h5:=h4.opens op (op:Int) rfl;have A5:=A4.trans (Aside.setCell (S:=[b]) (B:=w.heap.size) (p:=⟨b,3,none⟩) (by simp) (.int .i64 (op:Int))) nR;have kM:=iz.set (p:=⟨b,3,none⟩) (by simp) (.int .i64 (op:Int));refine bodyPost_ret (v:=.agg #[.int .i64 y.op,.int .i64 y.k,.int .i64 y.n,.string y.name,.slice y.aS y.nS y.cS,.slice y.aL y.nL y.cL]) (by simp [results,Tryz.results273,go_sem,aB,ay,az,aF,aD,aH]) rfl ?_;exact Post.good rfl (A5.put6 (k:=w.heap.size) nR y) (by omega) (h5.put6 (k:=w.heap.size) (by omega) (by omega) y) ⟨y,rfl,(kM.put6 (k:=w.heap.size) (by simp) y).wide (fun i hi _=>hi.1.imp id Nat.le_of_lt)⟩
theorem zFf {ok:Nat->Prop} {w:World} {x:ExV} {a:Ex} (hx:HEx ok w x.cells a) (t:TypeId) (bm:ok w.heap.size) :
  HExs ok (w.alloc (.cells #[.int .i64 x.op,.int .i64 x.k,.int .i64 x.n,.string x.name,.slice x.aS x.nS x.cS,.slice x.aL x.nL x.cL] t (0,0))) (.slice (some ⟨w.heap.size,0,none⟩) 1 1) [a]:=by
 have hn:=zAC w (.cells #[.int .i64 x.op,.int .i64 x.k,.int .i64 x.n,.string x.name,.slice x.aS x.nS x.cS,.slice x.aL x.nL x.cL] t (0,0));have hb:=((Below.refl w.heap.size w).alloc nR (.cells #[.int .i64 x.op,.int .i64 x.k,.int .i64 x.n,.string x.name,.slice x.aS x.nS x.cS,.slice x.aL x.nL x.cL] t (0,0)));refine ⟨fun i=>x.cells,⟨_,1,rfl,Nat.le_refl _,by decide,fun _=>⟨_,0,rfl,bm,zAB hn,fun i hi=>?_⟩⟩,fun i hi=>?_⟩
 ·match i,hi with
  | 0,_=>exact ⟨rfl,fun j hj=>by rw [co hn];match j,hj with | 0,_=>rfl | 1,_=>rfl | 2,_=>rfl | 3,_=>rfl | 4,_=>rfl | 5,_=>rfl⟩
 ·match i,hi with
  | 0,_=>exact hx.under hb
theorem zFg {ok:Nat->Prop} {w:World} {x y z:ExV} {a c d:Ex} (hx:HEx ok w x.cells a) (hy:HEx ok w y.cells c) (hz:HEx ok w z.cells d) (t:TypeId) (bm:ok w.heap.size) :
  HExs ok (w.alloc (.cells #[.int .i64 x.op,.int .i64 x.k,.int .i64 x.n,.string x.name,.slice x.aS x.nS x.cS,.slice x.aL x.nL x.cL,.int .i64 y.op,.int .i64 y.k,.int .i64 y.n,.string y.name,.slice y.aS y.nS y.cS,.slice y.aL y.nL y.cL,.int .i64 z.op,.int .i64 z.k,.int .i64 z.n,.string z.name,.slice z.aS z.nS z.cS,.slice z.aL z.nL z.cL] t (0,0))) (.slice (some ⟨w.heap.size,0,none⟩) 3 3) [a,c,d]:=by
 have hn:=zAC w (.cells #[.int .i64 x.op,.int .i64 x.k,.int .i64 x.n,.string x.name,.slice x.aS x.nS x.cS,.slice x.aL x.nL x.cL,.int .i64 y.op,.int .i64 y.k,.int .i64 y.n,.string y.name,.slice y.aS y.nS y.cS,.slice y.aL y.nL y.cL,.int .i64 z.op,.int .i64 z.k,.int .i64 z.n,.string z.name,.slice z.aS z.nS z.cS,.slice z.aL z.nL z.cL] t (0,0));have hb:=((Below.refl w.heap.size w).alloc nR (.cells #[.int .i64 x.op,.int .i64 x.k,.int .i64 x.n,.string x.name,.slice x.aS x.nS x.cS,.slice x.aL x.nL x.cL,.int .i64 y.op,.int .i64 y.k,.int .i64 y.n,.string y.name,.slice y.aS y.nS y.cS,.slice y.aL y.nL y.cL,.int .i64 z.op,.int .i64 z.k,.int .i64 z.n,.string z.name,.slice z.aS z.nS z.cS,.slice z.aL z.nL z.cL] t (0,0)));refine ⟨fun i=>if i=0 then x.cells else if i=1 then y.cells else z.cells,⟨_,3,rfl,Nat.le_refl _,by decide,fun _=>⟨_,0,rfl,bm,zAB hn,fun i hi=>?_⟩⟩,fun i hi=>?_⟩
 ·match i,hi with
  | 0,_=>exact ⟨rfl,fun j hj=>by rw [co hn];match j,hj with | 0,_=>rfl | 1,_=>rfl | 2,_=>rfl | 3,_=>rfl | 4,_=>rfl | 5,_=>rfl⟩
  | 1,_=>exact ⟨rfl,fun j hj=>by rw [co hn];match j,hj with | 0,_=>rfl | 1,_=>rfl | 2,_=>rfl | 3,_=>rfl | 4,_=>rfl | 5,_=>rfl⟩
  | 2,_=>exact ⟨rfl,fun j hj=>by rw [co hn];match j,hj with | 0,_=>rfl | 1,_=>rfl | 2,_=>rfl | 3,_=>rfl | 4,_=>rfl | 5,_=>rfl⟩
 ·match i,hi with
  | 0,_=>exact hx.under hb
  | 1,_=>exact hy.under hb
  | 2,_=>exact hz.under hb
theorem zAw {ok:Nat->Prop} {w:World}:HSizes ok w (.slice none 0 0) []:=⟨fun _=>[],Sl.nil,fun i h=>absurd h (Nat.not_lt_zero _)⟩
theorem zCo {ok:Nat->Prop} {w:World}:HExs ok w (.slice none 0 0) []:=⟨fun _=>[],Sl.nil,fun i h=>absurd h (Nat.not_lt_zero _)⟩
theorem zFw {b g cap:Nat} {I:Inp} {op:Nat} {E:Nat->Res Ex} (HE:Does 245 b g cap I op exV E):Does 275 b g cap I op exV (Ps.bracketed I E):=by
 intro nx w h hG;have hb:=h.bb;have hg:=h.gb;go_enter Tryz.func275,Tryz.ntmps275;go_wp2_with fail;refine (HE _ _ (h.alloc _) (hG.alloc _)).mono ?_;rintro e w1 ⟨a1,hres⟩;have z1:w.heap.size+1<=w1.heap.size:=(by simpa using a1.size);have cJ:=a1.keep (zAC w _) (by simp) (by simp;omega);have A1:=((Aside.refl (S:=[b]) (B:=w.heap.size) w).alloc nR _).trans a1 (by simp)
 cases ht:E nx with
 | err c0 a0=>
  rw [ht] at hres;obtain rfl:e=_:=hres;exact ⟨rfl,Post.fail (by unfold Ps.bracketed;rw [ht];rfl) A1⟩
 | ok e0 n1=>
  rw [ht] at hres;obtain ⟨dx,h1,_,rfl,y,rfl,cv⟩:=hres;have HT:=zAA ht;clear ht a1;go_wp2_with fail;have bM:=(cv.wide (ok':=fun i=>w.heap.size<i/\i<w1.heap.size) (fun i hi hl=>by simp at hi;omega)).under ((Below.refl _ w1).alloc nR (.cells #[.int .i64 y.op,.int .i64 y.k,.int .i64 y.n,.string y.name,.slice y.aS y.nS y.cS,.slice y.aL y.nL y.cL] 54 (0,0)));refine (zAJ (h1.alloc _) ⟨#[41]⟩ (by decide)).mono ?_;rintro e w2 ⟨a2,hres⟩;have es:(⟨#[41]⟩:ByteArray).data.toList=[41]:=rfl;rw [es] at hres;clear es;have z2:w1.heap.size+1<=w2.heap.size:=(by simpa using a2.size);have A2:=(A1.alloc (by omega) _).trans a2 (by simp;omega);have cH:=a2.keep (kA cJ _) (by simp;omega) (by simp;omega);have et:=a2.keep (zAC w1 _) (by simp) (by simp;omega);have iD:=bM.past a2 (fun i hi=>by simp;omega);clear a2 A1 cJ cv bM h1
  cases hn:Ps.need I [41] n1 with
  | err c0 a0=>
   rw [hn] at hres;obtain rfl:e=_:=hres;exact ⟨rfl,Post.fail (by unfold Ps.bracketed;rw [HT.out];simp only [Res.bind];rw [hn]) A2⟩
  | ok u n2=>
   rw [hn] at hres;obtain ⟨sM,h2,_,rfl,rfl⟩:=hres;have hm:Hid (Ps.bracketed I E nx=.ok e0 n2):=by
    show Ps.bracketed I E nx=_
    unfold Ps.bracketed;rw [HT.out];simp only [Res.bind];rw [hn]
   clear hn HT;have fa:=fun o=>fo cH o;have aB:=co cH 0;have ay:=co cH 1;have az:=co cH 2;have aF:=co cH 3;have aD:=co cH 4;have aH:=co cH 5;simp at aB ay az aF aD aH;have bw:=co et 0;have bz:=co et 1;have bv:=co et 2;have bU:=co et 3;have bT:=co et 4;have dm:=co et 5;simp at bw bz bv bU bT dm;go_wp2;refine bodyPost_ret (v:=.agg #[.int .i64 y.op,.int .i64 y.k,.int .i64 y.n,.string y.name,.slice y.aS y.nS y.cS,.slice y.aL y.nL y.cL]) (by simp [results,Tryz.results275,go_sem,aB,ay,az,aF,aD,aH]) rfl ?_;exact Post.good hm.out (A2.put6 (k:=w.heap.size) nR y) (by omega) (h2.put6 (k:=w.heap.size) (by omega) (by omega) y) ⟨y,rfl,(iD.put6 (k:=w.heap.size) (by simp) y).wide (fun i hi _=>Nat.le_of_lt hi.1)⟩
theorem choice_any {b g cap:Nat} {I:Inp} {op:Nat} {E:Nat->Res Ex} (HE:Does 245 b g cap I op exV E):Does 276 b g cap I op exV (Ps.choice I E):=by
 intro nx w h hG;have hb:=h.bb;have hg:=h.gb;go_enter Tryz.func276,Tryz.ntmps276;go_wp2_with fail;refine (HE _ _ (h.alloc _) (hG.alloc _)).mono ?_;rintro e w1 ⟨a1,hres⟩;have z1:w.heap.size+1<=w1.heap.size:=(by simpa using a1.size);have cJ:=a1.keep (zAC w _) (by simp) (by simp;omega);have A1:=((Aside.refl (S:=[b]) (B:=w.heap.size) w).alloc nR _).trans a1 (by simp)
 cases ht:E nx with
 | err c0 a0=>
  rw [ht] at hres;obtain rfl:e=_:=hres;exact ⟨rfl,Post.fail (by unfold Ps.choice;rw [ht];rfl) A1⟩
 | ok e1 n1=>
  rw [ht] at hres;obtain ⟨dx,h1,_,rfl,x1,rfl,cv⟩:=hres;have m1:Hid (Ps.choice I E nx=(Ps.need I [116,104,101,110] n1).bind fun _ n2=>(E n2).bind fun y n3=>(Ps.need I [101,108,115,101] n3).bind fun _ n4=>(E n4).bind fun z n5=>.ok (.mk 6 0 0 ⟨#[]⟩ [] [e1,y,z]) n5):=by
   show Ps.choice I E nx=_
   unfold Ps.choice;rw [ht];rfl
  clear ht a1;go_wp2_with fail;have bM:=(cv.wide (ok':=fun i=>w.heap.size<i/\i<w1.heap.size) (fun i hi hl=>by simp at hi;omega)).under ((Below.refl _ w1).alloc nR (.cells #[.int .i64 x1.op,.int .i64 x1.k,.int .i64 x1.n,.string x1.name,.slice x1.aS x1.nS x1.cS,.slice x1.aL x1.nL x1.cL] 54 (0,0)));refine (zAJ (h1.alloc _) ⟨#[116,104,101,110]⟩ (by decide)).mono ?_;rintro e w2 ⟨a2,hres⟩;have es:(⟨#[116,104,101,110]⟩:ByteArray).data.toList=[116,104,101,110]:=rfl;rw [es] at hres;clear es;have z2:w1.heap.size+1<=w2.heap.size:=(by simpa using a2.size);have A2:=(A1.alloc (by omega) _).trans a2 (by simp;omega);have cH:=a2.keep (kA cJ _) (by simp;omega) (by simp;omega);have et:=a2.keep (zAC w1 _) (by simp) (by simp;omega);have iD:=bM.past a2 (fun i hi=>by simp;omega);clear a2 A1 cJ cv bM h1
  cases hn:Ps.need I [116,104,101,110] n1 with
  | err c0 a0=>
   rw [hn] at hres;obtain rfl:e=_:=hres;exact ⟨rfl,Post.fail (by rw [m1.out,hn];rfl) A2⟩
  | ok u n2=>
   rw [hn] at hres;obtain ⟨sM,h2,_,rfl,rfl⟩:=hres;have m2:Hid (Ps.choice I E nx=(E n2).bind fun y n3=>(Ps.need I [101,108,115,101] n3).bind fun _ n4=>(E n4).bind fun z n5=>.ok (.mk 6 0 0 ⟨#[]⟩ [] [e1,y,z]) n5):=by
    show Ps.choice I E nx=_
    rw [m1.out,hn];rfl
   clear hn m1;go_wp2_with fail;refine (HE _ _ h2 (hG.far A2)).mono ?_;rintro e w3 ⟨a3,hres⟩;have z3:=a3.size;have A3:=A2.trans a3 A2.size;have lg:=a3.keep cH (by omega) (by simp;omega);have gU:=a3.keep et (by omega) (by simp;omega);have iz:=iD.past a3 (fun i hi=>by simp;omega);clear a3 A2 cH et iD h2
   cases ht:E n2 with
   | err c0 a0=>
    rw [ht] at hres;obtain rfl:e=_:=hres;exact ⟨rfl,Post.fail (by rw [m2.out,ht];rfl) A3⟩
   | ok e3 n3=>
    rw [ht] at hres;obtain ⟨oh,h3,_,rfl,x3,rfl,yP⟩:=hres;have m3:Hid (Ps.choice I E nx=(Ps.need I [101,108,115,101] n3).bind fun _ n4=>(E n4).bind fun z n5=>.ok (.mk 6 0 0 ⟨#[]⟩ [] [e1,e3,z]) n5):=by
     show Ps.choice I E nx=_
     rw [m2.out,ht];rfl
    clear ht m2;go_wp2_with fail;have Aa:=(yP.wide (ok':=fun i=>w1.heap.size<i/\i<w3.heap.size) (fun i hi hl=>by omega)).under ((Below.refl _ w3).alloc nR (.cells #[.int .i64 x3.op,.int .i64 x3.k,.int .i64 x3.n,.string x3.name,.slice x3.aS x3.nS x3.cS,.slice x3.aL x3.nL x3.cL] 54 (0,0)));have kM:=iz.under ((Below.refl _ w3).alloc nR (.cells #[.int .i64 x3.op,.int .i64 x3.k,.int .i64 x3.n,.string x3.name,.slice x3.aS x3.nS x3.cS,.slice x3.aL x3.nL x3.cL] 54 (0,0)));refine (zAJ (h3.alloc _) ⟨#[101,108,115,101]⟩ (by decide)).mono ?_;rintro e w4 ⟨a4,hres⟩;have es:(⟨#[101,108,115,101]⟩:ByteArray).data.toList=[101,108,115,101]:=rfl;rw [es] at hres;clear es;have z4:w3.heap.size+1<=w4.heap.size:=(by simpa using a4.size);have A4:=(A3.alloc A3.size _).trans a4 (by simp;omega);have eB:=a4.keep (kA lg _) (by simp;omega) (by simp;omega);have cA:=a4.keep (kA gU _) (by simp;omega) (by simp;omega);have nT:=a4.keep (zAC w3 _) (by simp) (by simp;omega);have ix:=kM.past a4 (fun i hi=>by simp;omega);have zw:=Aa.past a4 (fun i hi=>by simp;omega);clear a4 A3 lg gU iz kM yP Aa h3
    cases hn:Ps.need I [101,108,115,101] n3 with
    | err c0 a0=>
     rw [hn] at hres;obtain rfl:e=_:=hres;exact ⟨rfl,Post.fail (by rw [m3.out,hn];rfl) A4⟩
    | ok u n4=>
     rw [hn] at hres;obtain ⟨CB,h4,_,rfl,rfl⟩:=hres;have m4:Hid (Ps.choice I E nx=(E n4).bind fun z n5=>.ok (.mk 6 0 0 ⟨#[]⟩ [] [e1,e3,z]) n5):=by
      show Ps.choice I E nx=_
      rw [m3.out,hn];rfl
     clear hn m3;go_wp2_with fail;refine (HE _ _ h4 (hG.far A4)).mono ?_;rintro e w5 ⟨a5,hres⟩;have z5:=a5.size;have A5:=A4.trans a5 A4.size;have jt:=a5.keep eB (by omega) (by simp;omega);have fh:=a5.keep cA (by omega) (by simp;omega);have Ad:=a5.keep nT (by omega) (by simp;omega);have qp:=ix.past a5 (fun i hi=>by simp;omega);have JW:=zw.past a5 (fun i hi=>by simp;omega);clear a5 A4 eB cA nT ix zw h4
     cases ht:E n4 with
     | err c0 a0=>
      rw [ht] at hres;obtain rfl:e=_:=hres;exact ⟨rfl,Post.fail (by rw [m4.out,ht];rfl) A5⟩
     | ok e5 n5=>
      rw [ht] at hres;obtain ⟨ym,h5,_,rfl,x5,rfl,Lj⟩:=hres;have m5:Hid (Ps.choice I E nx=.ok (.mk 6 0 0 ⟨#[]⟩ [] [e1,e3,e5]) n5):=by
       show Ps.choice I E nx=_
       rw [m4.out,ht];rfl
      clear ht m4;obtain ⟨W,hW⟩:=nmQ (w5.alloc (.cells #[.int .i64 x5.op,.int .i64 x5.k,.int .i64 x5.n,.string x5.name,.slice x5.aS x5.nS x5.cS,.slice x5.aL x5.nL x5.cL] 54 (0,0)));have zW:=newZ hW;have bW:=zAk hW;have wS:W.heap[w5.heap.size]?=some (.cells #[.int .i64 x5.op,.int .i64 x5.k,.int .i64 x5.n,.string x5.name,.slice x5.aS x5.nS x5.cS,.slice x5.aL x5.nL x5.cL] 54 (0,0)):=(by rw [hW];exact zAC w5 _);have vK:=(aside bW (S:=[])).keep jt (zAB jt) (by simp);have sY:=(aside bW (S:=[])).keep fh (zAB fh) (by simp);have xA:=(aside bW (S:=[])).keep Ad (zAB Ad) (by simp);have q1:=(qp.wide (ok':=fun i=>w.heap.size<i) (fun i hi _=>by omega)).under bW;have q3:=(JW.wide (ok':=fun i=>w.heap.size<i) (fun i hi _=>by omega)).under bW;have q5:=(Lj.wide (ok':=fun i=>w.heap.size<i) (fun i hi _=>by omega)).under bW;have hS:=A5.trans (aside bW) A5.size;have hR:=h5.below bW;have fa:=fun o=>fo vK o;clear jt fh Ad qp JW Lj h5 A5;have aB:=co vK 0;have ay:=co vK 1;have az:=co vK 2;have aF:=co vK 3;have aD:=co vK 4;have aH:=co vK 5;simp at aB ay az aF aD aH;have bw:=co sY 0;have bz:=co sY 1;have bv:=co sY 2;have bU:=co sY 3;have bT:=co sY 4;have dm:=co sY 5;simp at bw bz bv bU bT dm;have FX:=co xA 0;have FJ:=co xA 1;have EP:=co xA 2;have D1:=co xA 3;have GD:=co xA 4;have Ee:=co xA 5;simp at FX FJ EP D1 GD Ee;have F5:=co wS 0;have DV:=co wS 1;have Hl:=co wS 2;have Ho:=co wS 3;have D7:=co wS 4;have E9:=co wS 5;simp at F5 DV Hl Ho D7 E9;go_upto_region 6 with fail;rw [<-hW];clear hW;have ak:w.heap.size<W.heap.size:=(by omega);have ZW:=zAA zW;clear zW;go_wp2;refine bodyPost_ret (v:=.agg #[.int .i64 6,.int .i64 0,.int .i64 0,.string ⟨#[]⟩,.slice none 0 0,.slice (some ⟨W.heap.size,0,none⟩) 3 3]) (by simp [results,Tryz.results276,go_sem,aB,ay,az,aF,aD,aH,ak]) rfl ?_;have zP:(put6 W w.heap.size ⟨6,0,0,⟨#[]⟩,none,0,0,some ⟨W.heap.size,0,none⟩,3,3⟩).heap.size=W.heap.size:=zBt _ _ _;have jc:=zFg (q1.put6 (k:=w.heap.size) (by simp) ⟨6,0,0,⟨#[]⟩,none,0,0,some ⟨W.heap.size,0,none⟩,3,3⟩) (q3.put6 (k:=w.heap.size) (by simp) ⟨6,0,0,⟨#[]⟩,none,0,0,some ⟨W.heap.size,0,none⟩,3,3⟩) (q5.put6 (k:=w.heap.size) (by simp) ⟨6,0,0,⟨#[]⟩,none,0,0,some ⟨W.heap.size,0,none⟩,3,3⟩) 54 (by rw [zP];omega);rw [zP] at jc;exact Post.good m5.out ((hS.put6 (k:=w.heap.size) nR ⟨6,0,0,⟨#[]⟩,none,0,0,some ⟨W.heap.size,0,none⟩,3,3⟩).alloc (by rw [zP];omega) _) (by omega) ((hR.put6 (k:=w.heap.size) (by omega) (by omega) ⟨6,0,0,⟨#[]⟩,none,0,0,some ⟨W.heap.size,0,none⟩,3,3⟩).alloc _) ⟨⟨6,0,0,⟨#[]⟩,none,0,0,some ⟨W.heap.size,0,none⟩,3,3⟩,rfl,(HEx.make (x:=⟨6,0,0,⟨#[]⟩,none,0,0,some ⟨W.heap.size,0,none⟩,3,3⟩) (e:=.mk 6 0 0 ⟨#[]⟩ [] [e1,e3,e5]) rfl rfl rfl rfl zAw jc).wide (fun i hi _=>Nat.le_of_lt hi)⟩
end Go.Proofs.YtkfgbhlpjkkgfaaGreatDoor
