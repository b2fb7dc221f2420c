import Derived.Test.YtkfgbhlpjkkgfaaGreatDoorN03
import Derived.Deep.RegionWith
import Derived.Deep.LoopGhost
set_option linter.unusedVariables false
set_option linter.unusedSimpArgs false
set_option maxHeartbeats 64000000
set_option maxRecDepth 100000
namespace Go.Proofs.YtkfgbhlpjkkgfaaGreatDoor
open Go.RowKit Go.IntWalk
theorem HSizes.at {ok:Nat→Prop} {w:World} {v:Value} {l:List (List Tm)} (h:HSizes ok w v l) :
  ∃ ao cap,v=.slice ao l.length cap∧l.length≤cap∧cap≤maxLen∧∀ i (h:i<l.length),∃ b o au nu cu,ao=some ⟨b,o,none⟩∧b<w.heap.size∧w.cell? ⟨b,o+i,none⟩=some (.slice au nu cu)∧HTerms ok w (.slice au nu cu) l[i]:=by
 obtain ⟨C,⟨ao,cap,hv,h1,h2,h3⟩,hC⟩:=h;refine ⟨ao,cap,hv,h1,h2,fun i hi=>?_⟩;obtain ⟨b,o,ha,hob,hb,hc⟩:=h3 (by omega);have:=(hc i hi).2 0 (by decide);obtain ⟨u,hu,ht⟩:=hC i hi;rw [hu] at this;have ht0:=ht;obtain ⟨_,⟨au,cu,rfl,_⟩,_⟩:=ht0;exact ⟨b,o,au,_,cu,ha,hb,by simpa using this,ht⟩
theorem HTerms.under {ok:Nat→Prop} {w w':World} {v:Value} {l:List Tm} (h:HTerms ok w v l) (a:Below w.heap.size w w'):HTerms ok w' v l:=h.keep a.size fun i _ hl=>a.block i hl
theorem HSizes.under {ok:Nat→Prop} {w w':World} {v:Value} {l:List (List Tm)} (h:HSizes ok w v l) (a:Below w.heap.size w w'):HSizes ok w' v l:=h.keep a.size fun i _ hl=>a.block i hl
theorem HNames.under {ok:Nat→Prop} {w w':World} {v:Value} {l:List ByteArray} (h:HNames ok w v l) (a:Below w.heap.size w w'):HNames ok w' v l:=h.keep a.size fun i _ hl=>a.block i hl
def HDes (ok:Nat→Prop) (w:World) (v:Value) (l:List De):Prop:=∃ C,Sl ok 3 w v l.length C∧∀ i (h:i<l.length),∃ u,C i=[.string (l[i]).name,.int .u8 (l[i]).elem,u]∧HTerms ok w u (l[i]).n
theorem HDes.keep {ok:Nat→Prop} {w w':World} {v:Value} {l:List De} (h:HDes ok w v l) (hs:w.heap.size≤w'.heap.size) (hk:∀ i,ok i→i<w.heap.size→w'.heap[i]?=w.heap[i]?):HDes ok w' v l:=by
 obtain ⟨C,h1,h2⟩:=h;refine ⟨C,h1.keep hs hk,fun i hi=>?_⟩;obtain ⟨u,e,ht⟩:=h2 i hi;exact ⟨u,e,ht.keep hs hk⟩
theorem HDes.under {ok:Nat→Prop} {w w':World} {v:Value} {l:List De} (h:HDes ok w v l) (a:Below w.heap.size w w'):HDes ok w' v l:=h.keep a.size fun i _ hl=>a.block i hl
theorem HTerms.form {ok:Nat→Prop} {w:World} {v:Value} {l:List Tm} (h:HTerms ok w v l):∃ a n c,v=.slice a n c:=by
 obtain ⟨_,⟨au,cu,rfl,_⟩,_⟩:=h;exact ⟨_,_,_,rfl⟩
theorem HDes.at {ok:Nat→Prop} {w:World} {v:Value} {l:List De} (h:HDes ok w v l) :
  ∃ ao cap,v=.slice ao l.length cap∧l.length≤cap∧cap≤maxLen∧∀ i (h:i<l.length),∃ b o au nu cu,ao=some ⟨b,o,none⟩∧b<w.heap.size∧w.cell? ⟨b,o+i*3,none⟩=some (.string (l[i]).name)∧w.cell? ⟨b,o+i*3+1,none⟩=some (.int .u8 (l[i]).elem)∧w.cell? ⟨b,o+i*3+2,none⟩=some (.slice au nu cu)∧HTerms ok w (.slice au nu cu) (l[i]).n:=by
 obtain ⟨C,⟨ao,cap,hv,h1,h2,h3⟩,hC⟩:=h;refine ⟨ao,cap,hv,h1,h2,fun i hi=>?_⟩;obtain ⟨b,o,ha,hob,hb,hc⟩:=h3 (by omega);obtain ⟨u,hu,ht⟩:=hC i hi;have t0:=(hc i hi).2 0 (by decide);have t1:=(hc i hi).2 1 (by decide);have t2:=(hc i hi).2 2 (by decide);rw [hu] at t0 t1 t2;obtain ⟨au,nu,cu,rfl⟩:=ht.form;exact ⟨b,o,au,nu,cu,ha,hb,by simpa using t0,by simpa using t1,by simpa using t2,ht⟩
def signOp (t:List UInt8):Int :=
 if t==[43] then 1 else if t==[45] then 2 else if t==[42] then 3 else if t==[47] then 4 else if t==[37] then 5 else
 if t==[60] then 8 else if t==[61,61] then 9 else if t==[97,110,100] then 10 else if t==[111,114] then 11 else if t==[120,111,114] then 12 else 0
theorem signOp_any (t:List UInt8) (w:World):Calls Tryz.prog 266 #[.string (str t)] w fun e w'=>e=.returned (.int .i64 (signOp t))∧w'=w:=by
 obtain ⟨r,hr⟩:=nmQ (signOp t);rw [←hr];have HR:=hide hr;clear hr;have ht:(str t).toList=t:=(by rw [Lib.toList_data];rfl);go_enter Tryz.func266,Tryz.ntmps266;go_wp2
 all_goals go_ret
 all_goals refine ⟨ret_int ?_,rfl⟩
 all_goals (have hr:=HR.out;simp [signOp, *] at hr ⊢)
 all_goals (try simp_all)
def btw (a c:Int) (t:List UInt8):Int:=if signOp t<a∨c<signOp t then 0 else signOp t
theorem between_any {w:World} {b g cap:Nat} {L:List Tk.Tok} {len nx op:Nat} (h:Rd w b g cap L len nx op) (a c:Int) :
  Calls Tryz.prog 262 #[.pointer (some ⟨b,0,none⟩),.int .i64 a,.int .i64 c] w fun e w'=>e=.returned (.int .i64 (btw a c (peekT L len nx).text))∧Below w.heap.size w w':=by
 have hp:=@peek_any _ _ _ _ _ _ _ _ h;obtain ⟨t,ht⟩:=nmQ (peekT L len nx);rw [←ht] at hp ⊢;unfold tokV at hp;clear h ht;have hf:=fun x w=>tok_field2 t x w;obtain ⟨r,hr⟩:=nmQ (btw a c t.text);rw [←hr];obtain ⟨s,hs⟩:=nmQ (signOp t.text);unfold btw at hr;rw [←hs] at hr;have HR:=hide hr;clear hr;go_enter Tryz.func262,Tryz.ntmps262;go_wp2_with fail;refine hp.mono ?_;rintro e w' ⟨rfl,hb⟩;go_wp2_with fail;refine (signOp_any _ _).mono ?_;rintro e w'' ⟨rfl,rfl⟩;rw [←hs];clear hs;go_wp2
 all_goals go_ret
 all_goals refine ⟨ret_int ?_,hb⟩
 all_goals (have hr:=HR.out;simp_all)
 all_goals omega
def Gives (F b g cap:Nat) (L:List Tk.Tok) (len op nx n1:Nat) (e:Ex):Prop :=
 nx≤n1∧∀ w,Rd w b g cap L len nx op→Calls Tryz.prog F #[.pointer (some ⟨b,0,none⟩)] w fun r w'=>∃ x:ExV,
  r=.returned (.agg #[.int .i64 x.op,.int .i64 x.k,.int .i64 x.n,.string x.name,.slice x.aS x.nS x.cS,.slice x.aL x.nL x.cL])∧HEx (fun i=>w.heap.size≤i) w' x.cells e∧Rd w' b g cap L len n1 op∧Aside [b] w.heap.size w w'
theorem pair_any {w:World} {ok:Nat→Prop} {x y:ExV} {e f:Ex} (k:Int) (hx:HEx ok w x.cells e) (hy:HEx ok w y.cells f) (hok:∀ i,w.heap.size≤i→ok i) :
  Calls Tryz.prog 263 #[.int .i64 k,.agg #[.int .i64 x.op,.int .i64 x.k,.int .i64 x.n,.string x.name,.slice x.aS x.nS x.cS,.slice x.aL x.nL x.cL],.agg #[.int .i64 y.op,.int .i64 y.k,.int .i64 y.n,.string y.name,.slice y.aS y.nS y.cS,.slice y.aL y.nL y.cL]] w fun r w'=>∃ z:ExV,
   r=.returned (.agg #[.int .i64 z.op,.int .i64 z.k,.int .i64 z.n,.string z.name,.slice z.aS z.nS z.cS,.slice z.aL z.nL z.cL])∧HEx ok w' z.cells (.mk 5 k 0 ⟨#[]⟩ [] [e,f])∧Below w.heap.size w w':=by
 go_enter Tryz.func263,Tryz.ntmps263;go_wp2;obtain ⟨W,hW⟩:∃ W,W=(((w.alloc (Obj.cells #[.int .i64 x.op,.int .i64 x.k,.int .i64 x.n,.string x.name,.slice x.aS x.nS x.cS,.slice x.aL x.nL x.cL] 54 (0,0))).alloc (Obj.cells #[.int .i64 y.op,.int .i64 y.k,.int .i64 y.n,.string y.name,.slice y.aS y.nS y.cS,.slice y.aL y.nL y.cL] 54 (0,0))).alloc
   (Obj.cells #[.int .i64 5,.int .i64 k,.int .i64 0,.string ⟨#[]⟩,.slice none 0 0,.slice (some ⟨w.heap.size+1+1+1,0,none⟩) 2 2] 54 (0,0))):=⟨_,rfl⟩
 have hz:W.heap.size=w.heap.size+1+1+1:=(by rw [hW];simp);have hbW:Below w.heap.size w W:=(by rw [hW];exact (((Below.refl _ w).alloc nR _).alloc (by simp) _).alloc (by simp;omega) _);have hc:W.heap[w.heap.size+1+1]?=some (.cells #[.int .i64 5,.int .i64 k,.int .i64 0,.string ⟨#[]⟩,.slice none 0 0,.slice (some ⟨w.heap.size+1+1+1,0,none⟩) 2 2] 54 (0,0)):=by
  rw [hW];have:=heap_new ((w.alloc (Obj.cells #[.int .i64 x.op,.int .i64 x.k,.int .i64 x.n,.string x.name,.slice x.aS x.nS x.cS,.slice x.aL x.nL x.cL] 54 (0,0))).alloc (Obj.cells #[.int .i64 y.op,.int .i64 y.k,.int .i64 y.n,.string y.name,.slice y.aS y.nS y.cS,.slice y.aL y.nL y.cL] 54 (0,0))) (Obj.cells #[.int .i64 5,.int .i64 k,.int .i64 0,.string ⟨#[]⟩,.slice none 0 0,.slice (some ⟨w.heap.size+1+1+1,0,none⟩) 2 2] 54 (0,0))
  simpa using this
 rw [←hW];have hp:=HEx.pair k (hx.under hbW) (hy.under hbW) 54 (hok _ (by omega));rw [hz] at hp;obtain ⟨W',hW'⟩:∃ W',W'=W.alloc (Obj.cells #[.int .i64 x.op,.int .i64 x.k,.int .i64 x.n,.string x.name,.slice x.aS x.nS x.cS,.slice x.aL x.nL x.cL,.int .i64 y.op,.int .i64 y.k,.int .i64 y.n,.string y.name,.slice y.aS y.nS y.cS,.slice y.aL y.nL y.cL] 54 (0,0)):=⟨_,rfl⟩;have hb':Below w.heap.size w W':=(by rw [hW'];exact hbW.alloc (by omega) _);have hc':W'.heap[w.heap.size+1+1]?=some (.cells #[.int .i64 5,.int .i64 k,.int .i64 0,.string ⟨#[]⟩,.slice none 0 0,.slice (some ⟨w.heap.size+1+1+1,0,none⟩) 2 2] 54 (0,0)):=(by rw [hW'];exact kA hc _);rw [←hW'] at hp ⊢;have c0:=co hc' 0;have c1:=co hc' 1;have c2:=co hc' 2;have c3:=co hc' 3;have c4:=co hc' 4;have c5:=co hc' 5;simp at c0 c1 c2 c3 c4 c5;exact bodyPost_ret (v:=.agg #[.int .i64 5,.int .i64 k,.int .i64 0,.string ⟨#[]⟩,.slice none 0 0,.slice (some ⟨w.heap.size+1+1+1,0,none⟩) 2 2]) (by simp [results,Tryz.results263,go_sem,c0,c1,c2,c3,c4,c5]) rfl ⟨⟨5,k,0,⟨#[]⟩,none,0,0,some ⟨w.heap.size+1+1+1,0,none⟩,2,2⟩,rfl,hp,hb'⟩
theorem enter112 (args:Array Value) (w:World):(callFunc 256 args).run Tryz.prog w=.ok (.enter 256 args) w:=by kernel_rfl
theorem enter115 (args:Array Value) (w:World):(callFunc 264 args).run Tryz.prog w=.ok (.enter 264 args) w:=by kernel_rfl
theorem enter118 (args:Array Value) (w:World):(callFunc 268 args).run Tryz.prog w=.ok (.enter 268 args) w:=by kernel_rfl
theorem enter119 (args:Array Value) (w:World):(callFunc 269 args).run Tryz.prog w=.ok (.enter 269 args) w:=by kernel_rfl
theorem unit_name {b g cap:Nat} {L:List Tk.Tok} {len op nx:Nat} (hk:(peekT L len nx).kind=2) (hn:nx<L.length):Gives 271 b g cap L len op nx (nx+1) (.mk 3 0 0 (str (peekT L len nx).text) [] []):=by
 refine ⟨Nat.le_succ _,fun w h=>?_⟩;have hb:=h.bb;have hg:=h.gb;have hp:=fun o=>@peek_any _ _ _ _ _ _ _ _ (h.alloc o);obtain ⟨t,ht⟩:=nmQ (peekT L len nx);rw [←ht] at hk ⊢;have hp':∀ o,Calls Tryz.prog 108 #[.pointer (some ⟨b,0,none⟩)] (w.alloc o) fun e w'=>e=.returned (.agg #[.int .i64 2,.int .i64 (t.place:Int),.string (str t.text),.int .i64 t.n])∧Below (w.alloc o).heap.size (w.alloc o) w':=by
  intro o;have:=hp o;rw [←ht] at this;unfold tokV at this;rw [hk] at this;exact this
 clear ht hp;go_enter Tryz.func271,Tryz.ntmps271;go_wp2_with fail;refine (hp' _).mono ?_;rintro r w1 ⟨rfl,b1⟩;have z1:w.heap.size+1≤w1.heap.size:=(by simpa using b1.size);have hA1:=(aside b1 (S:=[])).keep (heap_new w _) (by simp) (by simp);have h1:=(h.alloc _).below b1;have A1:=((Aside.refl (S:=[b]) (B:=w.heap.size) w).alloc nR _).trans (aside b1) (by simp);clear b1;go_wp2_with fail;refine (step_any (h1.alloc _) hn).mono ?_;rintro r w2 ⟨rfl,h2,a2⟩;have hA2:=a2.keep (kA hA1 _) (by simp;omega) (by simp;omega);have hT2:=a2.keep (heap_new w1 _) (by simp) (by simp;omega);have A2:=(A1.alloc (by omega) _).trans a2 (by simp;omega);have ct2:=co hT2 2;have ct3:=co hT2 3;have fa:=fun o=>fo hA2 o;have ca0:=co hA2 0;have ca1:=co hA2 1;have ca2:=co hA2 2;have ca3:=co hA2 3;have ca4:=co hA2 4;have ca5:=co hA2 5;simp at ca0 ca1 ca2 ca3 ca4 ca5 ct2 ct3;go_wp2;refine bodyPost_ret (v:=.agg #[.int .i64 3,.int .i64 0,.int .i64 0,.string (str t.text),.slice none 0 0,.slice none 0 0]) (by simp [results,Tryz.results271,go_sem,ca0,ca1,ca2,ca3,ca4,ca5]) rfl ⟨⟨3,0,0,str t.text,none,0,0,none,0,0⟩,rfl,HEx.leaf _ _ _ _,?_,?_⟩
 ·exact (((((h2.set (by simp;omega) (by simp;omega) _).set (by simp;omega) (by simp;omega) _).set (by simp;omega) (by simp;omega) _).set (by simp;omega) (by simp;omega) _).set (by simp;omega) (by simp;omega) _).set (by simp;omega) (by simp;omega) _
 ·exact (((((A2.set (by simp) _).set (by simp) _).set (by simp) _).set (by simp) _).set (by simp) _).set (by simp) _
theorem unit_num {b g cap:Nat} {L:List Tk.Tok} {len op nx:Nat} (hk:(peekT L len nx).kind=3) (hn:nx<L.length):Gives 271 b g cap L len op nx (nx+1) (.mk 1 0 (peekT L len nx).n ⟨#[]⟩ [] []):=by
 refine ⟨Nat.le_succ _,fun w h=>?_⟩;have hb:=h.bb;have hg:=h.gb;have hp:=fun o=>@peek_any _ _ _ _ _ _ _ _ (h.alloc o);obtain ⟨t,ht⟩:=nmQ (peekT L len nx);rw [←ht] at hk ⊢;have hp':∀ o,Calls Tryz.prog 108 #[.pointer (some ⟨b,0,none⟩)] (w.alloc o) fun e w'=>e=.returned (.agg #[.int .i64 3,.int .i64 (t.place:Int),.string (str t.text),.int .i64 t.n])∧Below (w.alloc o).heap.size (w.alloc o) w':=by
  intro o;have:=hp o;rw [←ht] at this;unfold tokV at this;rw [hk] at this;exact this
 clear ht hp;go_enter Tryz.func271,Tryz.ntmps271;go_wp2_with fail;refine (hp' _).mono ?_;rintro r w1 ⟨rfl,b1⟩;have z1:w.heap.size+1≤w1.heap.size:=(by simpa using b1.size);have hA1:=(aside b1 (S:=[])).keep (heap_new w _) (by simp) (by simp);have h1:=(h.alloc _).below b1;have A1:=((Aside.refl (S:=[b]) (B:=w.heap.size) w).alloc nR _).trans (aside b1) (by simp);clear b1;go_wp2_with fail;refine (step_any (h1.alloc _) hn).mono ?_;rintro r w2 ⟨rfl,h2,a2⟩;have hA2:=a2.keep (kA hA1 _) (by simp;omega) (by simp;omega);have hT2:=a2.keep (heap_new w1 _) (by simp) (by simp;omega);have A2:=(A1.alloc (by omega) _).trans a2 (by simp;omega);have ct2:=co hT2 2;have ct3:=co hT2 3;have fa:=fun o=>fo hA2 o;have ca0:=co hA2 0;have ca1:=co hA2 1;have ca2:=co hA2 2;have ca3:=co hA2 3;have ca4:=co hA2 4;have ca5:=co hA2 5;simp at ca0 ca1 ca2 ca3 ca4 ca5 ct2 ct3;go_wp2;refine bodyPost_ret (v:=.agg #[.int .i64 1,.int .i64 0,.int .i64 t.n,.string ⟨#[]⟩,.slice none 0 0,.slice none 0 0]) (by simp [results,Tryz.results271,go_sem,ca0,ca1,ca2,ca3,ca4,ca5]) rfl ⟨⟨1,0,t.n,⟨#[]⟩,none,0,0,none,0,0⟩,rfl,HEx.leaf _ _ _ _,?_,?_⟩
 ·exact (((((h2.set (by simp;omega) (by simp;omega) _).set (by simp;omega) (by simp;omega) _).set (by simp;omega) (by simp;omega) _).set (by simp;omega) (by simp;omega) _).set (by simp;omega) (by simp;omega) _).set (by simp;omega) (by simp;omega) _
 ·exact (((((A2.set (by simp) _).set (by simp) _).set (by simp) _).set (by simp) _).set (by simp) _).set (by simp) _
end Go.Proofs.YtkfgbhlpjkkgfaaGreatDoor
namespace Go.Proofs.YtkfgbhlpjkkgfaaGreatDoor
open Go.RowKit Go.IntWalk
def ExAt (w:World) (b o:Nat) (y:ExV):Prop :=
 w.cell? ⟨b,o,none⟩=some (.int .i64 y.op)∧w.cell? ⟨b,o+1,none⟩=some (.int .i64 y.k)∧w.cell? ⟨b,o+2,none⟩=some (.int .i64 y.n) ∧
 w.cell? ⟨b,o+3,none⟩=some (.string y.name)∧w.cell? ⟨b,o+4,none⟩=some (.slice y.aS y.nS y.cS)∧w.cell? ⟨b,o+5,none⟩=some (.slice y.aL y.nL y.cL)
theorem ExAt.keep {w w':World} {b o:Nat} {y:ExV} (h:ExAt w b o y) (hb:w'.heap[b]?=w.heap[b]?):ExAt w' b o y:=by
 have hc:∀ q,w'.cell? ⟨b,q,none⟩=w.cell? ⟨b,q,none⟩:=fun q=>World.cell?_of_block (w:=w) hb;obtain ⟨h0,h1,h2,h3,h4,h5⟩:=h;exact ⟨(hc _).trans h0,(hc _).trans h1,(hc _).trans h2,(hc _).trans h3,(hc _).trans h4,(hc _).trans h5⟩
theorem Sl.exAt {ok:Nat→Prop} {w:World} {v:Value} {L:List Ex} {C:Nat→List Value} (hL:Sl ok 6 w v L.length C) (hE:∀ i (h:i<L.length),HEx ok w (C i) L[i]) :
  ∃ ao cap,v=.slice ao L.length cap∧L.length≤cap∧cap≤maxLen∧∀ i (h:i<L.length),∃ b o y,ao=some ⟨b,o,none⟩∧ok b∧b<w.heap.size∧ExAt w b (o+i*6) y∧HEx ok w y.cells L[i]:=by
 obtain ⟨ao,cap,hv,h1,h2,h3⟩:=hL;refine ⟨ao,cap,hv,h1,h2,fun i hi=>?_⟩;obtain ⟨b,o,ha,hob,hb,hc⟩:=h3 (by omega);obtain ⟨y,hy,hex⟩:=(hE i hi).toV;have hcc:=(hc i hi).2;rw [hy] at hcc;exact ⟨b,o,y,ha,hob,hb,⟨hcc 0 (by decide),hcc 1 (by decide),hcc 2 (by decide),hcc 3 (by decide),hcc 4 (by decide),hcc 5 (by decide)⟩,hex⟩
mutual
def parts:Ex→Nat
 | .mk _ _ _ _ _ L=>1+partsL L
def partsL:List Ex→Nat
 | []=>0
 | e :: l=>parts e+partsL l
end
theorem partsL_take:∀ (L:List Ex) (i:Nat) (h:i<L.length),partsL (L.take (i+1))=partsL (L.take i)+parts L[i]
 | [],i,h=>by simp at h
 | e :: L,0,h=>by simp [partsL]
 | e :: L,i+1,h=>by
  have:=partsL_take L i (by simpa using h);simp [partsL] at this ⊢;omega
theorem partsL_le:∀ (L:List Ex) (i:Nat),partsL (L.take i)≤partsL L
 | [],i=>by simp [partsL]
 | e :: L,0=>by simp [partsL]
 | e :: L,i+1=>by have:=partsL_le L i;simp [partsL];omega
theorem parts_mem:∀ (L:List Ex) (i:Nat) (h:i<L.length),parts L[i]≤partsL L:=fun L i h=>by
 have h1:=partsL_take L i h;have h2:=partsL_le L (i+1);omega
theorem countParts_any:∀ (n:Nat) (e:Ex),parts e≤n→n≤1099511627776→∀ (ok:Nat→Prop) (x:ExV) (w:World),HEx ok w x.cells e →
  Calls Tryz.prog 246 #[.agg #[.int .i64 x.op,.int .i64 x.k,.int .i64 x.n,.string x.name,.slice x.aS x.nS x.cS,.slice x.aL x.nL x.cL]] w fun r w'=>r=.returned (.int .i64 (parts e:Int))∧Below w.heap.size w w'
 | 0,.mk _ _ _ _ _ L,hn,_,_,_,_,_=>by simp [parts] at hn
 | n+1,.mk op k nn name S L,hn,hbig,ok,x,w,hx=>by
  obtain ⟨oo,kk,nv,nm,aS,nS,cS,aL,nL,cL⟩:=x;have hp:1+partsL L≤n+1:=(by simpa [parts] using hn);rw [parts];have HI:∀ e,parts e≤n→∀ (ok:Nat→Prop) (x:ExV) (w:World),HEx ok w x.cells e →
   Calls Tryz.prog 246 #[.agg #[.int .i64 x.op,.int .i64 x.k,.int .i64 x.n,.string x.name,.slice x.aS x.nS x.cS,.slice x.aL x.nL x.cL]] w fun r w'=>r=.returned (.int .i64 (parts e:Int))∧Below w.heap.size w w':=
   fun e he=>countParts_any n e he (by omega)
  cases hx with
  | @mk _ _ _ _ _ _ _ _ C hS hL hE=>
   obtain ⟨ao,cap,hv,hc1,hc2,hat⟩:=hL.exAt hE;injection hv with q1 q2 q3;subst q1 q2 q3;have hcm:=hc2;unfold maxLen at hcm;go_enter Tryz.func246,Tryz.ntmps246;go_wp2;go_loopg [3,9] L.length (fun q v3 v9 wr=>∃ i,i≤L.length∧q=L.length-i∧v9=.int .i64 (i:Nat)∧v3=.int .i64 ((1+partsL (L.take i):Nat):Int)∧Below w.heap.size w wr)
   case atStart=>exact ⟨0,Nat.zero_le _,rfl,rfl,by simp [partsL],(Below.refl _ w).alloc nR _⟩
   case round=>
    obtain ⟨i,hi,rfl,rfl,rfl,hbr⟩:=hrel;by_cases hlt:i<L.length
    ·obtain ⟨b,o,y,rfl,_,hb,hxa,hy⟩:=hat i hlt
     obtain ⟨c0,c1,c2,c3,c4,c5⟩:=hxa.keep (hbr.block b hb);have ht:=partsL_take L i hlt;have hl:=partsL_le L (i+1);have hy':=(hy.under hbr).under ((Below.refl _ wr).alloc nR (.cells #[.int .i64 y.op,.int .i64 y.k,.int .i64 y.n,.string y.name,.slice y.aS y.nS y.cS,.slice y.aL y.nL y.cL] 54 (0,0)));go_wp2_with fail;refine (HI L[i] (by have:=parts_mem L i hlt;omega) ok y _ hy').mono ?_;rintro r w2 ⟨rfl,b2⟩;have hb2:Below w.heap.size w w2:=(hbr.alloc hbr.size _).trans (b2.mono (by have:=hbr.size;simp;omega));have HT:=hide ht;have HL:=hide hl;clear ht hl hy' hat HI;go_wp2;go_roundg (L.length-(i+1))
     case measure=>omega
     case rel=>
      have ht:=HT.out;have hl:=HL.out;rw [ht] at hl;exact ⟨i+1,by omega,rfl,by go_num,by rw [ht,wrap64_in _ (by omega)];go_num,hb2⟩
    ·have hie:i=L.length:=by omega
     subst hie;clear hat HI;go_wp2;go_ret;exact ⟨ret_int (by rw [List.take_length]),hbr⟩
end Go.Proofs.YtkfgbhlpjkkgfaaGreatDoor
