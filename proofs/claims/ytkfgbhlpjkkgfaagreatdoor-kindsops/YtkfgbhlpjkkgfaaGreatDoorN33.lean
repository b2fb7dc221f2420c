import Derived.Test.YtkfgbhlpjkkgfaaGreatDoorN32
set_option linter.unusedVariables false
set_option linter.unusedSimpArgs false
set_option maxHeartbeats 64000000
set_option maxRecDepth 100000
namespace Go.Proofs.YtkfgbhlpjkkgfaaGreatDoor
open Go.RowKit Go.IntWalk
def dcV:Nat→World→Value→De→Prop:=fun B w x d=>∃ a n c,x=.agg #[.string d.name,.int .u8 d.elem,.slice a n c]∧HTerms (fun i=>B≤i) w (.slice a n c) d.n
def exV:Nat→World→Value→Ex→Prop:=fun B w x e=>∃ y:ExV,x=.agg #[.int .i64 y.op,.int .i64 y.k,.int .i64 y.n,.string y.name,.slice y.aS y.nS y.cS,.slice y.aL y.nL y.cL]∧HEx (fun i=>B≤i) w y.cells e
def rowV {α:Type} (T:Kind α):Nat→World→Value→List α→Prop:=fun B w x l=>HRow T (fun i=>B≤i) w x l
def GlobT (w:World):Prop:=7<w.heap.size∧∀ j (h:j<Ps.words.length),w.cell? ⟨7,j,none⟩=some (.string (str Ps.words[j]))
def GlobB (b:Nat) (w:World):Prop:=b≠7∧GlobT w
theorem GlobT.keep {w w':World} (h:GlobT w) (hs:w.heap.size≤w'.heap.size) (hb:w'.heap[7]?=w.heap[7]?):GlobT w' :=
 ⟨Nat.lt_of_lt_of_le h.1 hs,fun j hj=>(World.cell?_of_block (w:=w) (a:=⟨7,j,none⟩) hb).trans (h.2 j hj)⟩
theorem GlobB.one {b:Nat} {w:World} (h:GlobB b w):7<w.heap.size:=h.2.1
theorem GlobB.far {b:Nat} {w w':World} (h:GlobB b w) (a:Aside [b] w.heap.size w w'):GlobB b w':=⟨h.1,h.2.keep a.size (a.block 7 h.one (by simp;exact fun e=>h.1 e.symm))⟩
theorem GlobB.far2 {b nb N0:Nat} {w w':World} (h:GlobB b w) (a:Aside [b,nb] N0 w w') (hn:7<nb) (hN:nb<N0):GlobB b w':=⟨h.1,h.2.keep a.size (a.block 7 (by omega) (by simp;exact ⟨fun e=>h.1 e.symm,by omega⟩))⟩
theorem GlobB.alloc {b:Nat} {w:World} (h:GlobB b w) (o:Obj):GlobB b (w.alloc o):=⟨h.1,h.2.keep (by simp) (Below.heap_alloc _ _ _ h.one)⟩
def Does {α:Type} (F b g cap:Nat) (I:Inp) (op:Nat) (V:Nat→World→Value→α→Prop) (R:Nat→Res α):Prop :=
 ∀ (n:Nat) (w:World),Rd w b g cap I.L I.len n op→GlobB b w→Calls Tryz.prog F #[.pointer (some ⟨b,0,none⟩)] w (Post b g cap I op V n w (R n))
theorem row_succ {α:Type} {I:Inp} {R:Nat→Res α} {f:Nat} {acc:List α} {n:Nat}:Ps.row I R (f+1) acc n=(R n).bind fun v n1=>if Ps.sees I [44] n1=true then Ps.row I R f (acc++[v]) (n1+1) else .ok (acc++[v]) n1:=rfl
theorem rowName_any {w:World} {b g cap:Nat} {I:Inp} {nx op:Nat} {R:Nat→Res ByteArray} (HR:Does 140 b g cap I op strV R) (h:Rd w b g cap I.L I.len nx op) (hG:GlobB b w) (most:Nat) (hmost:most≤1000) :
  Calls Tryz.prog 142 #[.pointer (some ⟨b,0,none⟩),.int .i64 most,.func (.func 140) #[.pointer (some ⟨b,0,none⟩)] #[]] w (Post b g cap I op (rowV kName) nx w (Ps.row I R most [] nx)):=by
 have hb:=h.bb;have hg:=h.gb;go_enter Tryz.func142,Tryz.ntmps142;go_wp2;go_loopg [7] most (fun k v wr=>∃ (n:Nat) (acc:List ByteArray),k+acc.length=most∧OwnL kName w.heap.size wr v acc∧Rd wr b g cap I.L I.len n op∧Aside [b] w.heap.size w wr∧nx≤n∧Hid (Ps.row I R most [] nx=Ps.row I R k acc n))
 case atStart=>exact ⟨nx,[],rfl,OwnL.nil,h,Aside.refl _,Nat.le_refl _,rfl⟩
 case round=>
  obtain ⟨n,acc,hk,hown,hr,hA,hle,hmod⟩:=hrel;obtain ⟨aa,cc,rfl,hc1,hc2⟩:=hown.form;unfold maxLen at hc2;have zr:=hA.size;by_cases hz:gk=0
  ·subst hz
   go_wp2_with fail;refine (allow_no hr _ _ (by omega)).mono ?_;rintro e w5 ⟨rfl,b5⟩;exact ⟨rfl,Post.fail (by rw [hmod.out];rfl) (hA.trans (aside b5) hA.size)⟩
  ·obtain ⟨f,rfl⟩:∃ f,gk=f+1:=⟨gk-1,by omega⟩
   go_wp2_with fail;refine (allow_yes _ _ _ (by omega) _).mono ?_;rintro e wr ⟨rfl,rfl⟩;go_wp2_with fail;refine (HR n _ hr (hG.far hA)).mono ?_;rintro e w7 ⟨a7,hres⟩;have A7:=hA.trans a7 zr;have own7:=hown.past a7 (by simp;omega);have z7:=A7.size;have y7:=a7.size
   cases ht:R n with
   | err c a=>
    rw [ht] at hres;obtain rfl:e=_:=hres;exact ⟨rfl,Post.fail (by rw [hmod.out,row_succ,ht];rfl) A7⟩
   | ok y n1=>
    rw [ht] at hres;obtain ⟨le7,h7,x7,rfl,hV⟩:=hres;obtain rfl:x7=_:=hV;have hmod2:Hid (Ps.row I R most [] nx=if Ps.sees I [44] n1=true then Ps.row I R f (acc++[y]) (n1+1) else .ok (acc++[y]) n1):=by
     show Ps.row I R most [] nx=_
     rw [hmod.out,row_succ,ht];rfl
    have hNb:=fun k hk=>(hown.lt k hk).2;have q1:kName.E (fun i=>wr.heap.size≤i) w7 [.string y] y:=rfl;have q2:(acc.length+1)*kName.bytes≤140737488355328:=(by show (acc.length+1)*16≤_;omega);have q3:acc.length+1≤maxLen:=(by unfold maxLen;omega);clear hmod ht a7 hown hr hA HR
    go_wp2_with (at_builtin;refine wpList_more kName rfl _ _ 43 9 rfl Tryz.underlying43 w.heap.size wr.heap.size _ acc (by rfl) own7 [.string y] y q1 (by rfl) hNb zr z7 q2 q3 ?_;intro v8 w8 own8 b8 _ _)
    have h8:=h7.under b8 (by omega) (by omega);have A8:=A7.trans (aside b8) nR;refine (take_any h8 ⟨#[44]⟩ (by decide)).mono ?_;rintro e w9 ⟨rfl,h9,a9⟩;have es:(⟨#[44]⟩:ByteArray).data.toList=[44]:=rfl;rw [es] at h9;simp only [es];clear es;have A9:=A8.trans a9 A8.size;have own9:=own8.past a9 (by simp;omega);clear A8 a9 own8 h8 own7 h7 b8 A7 hNb q1
    cases hq:Ps.sees I [44] n1 with
    | true=>
     rw [hq] at h9 hmod2;go_wp2;go_roundg f
     case measure=>omega
     case rel=>exact ⟨n1+1,acc++[y],by simp;omega,own9,by simpa using h9,A9,by omega,hide (by simpa using hmod2.out)⟩
    | false=>
     rw [hq] at h9 hmod2;obtain ⟨a10,c10,rfl,_,_⟩:=own9.form;go_wp2;go_ret;exact Post.good (by rw [hmod2.out];rfl) A9 (by omega) (by simpa using h9) own9.row
theorem rowDecl_any {w:World} {b g cap:Nat} {I:Inp} {nx op:Nat} {R:Nat→Res De} (HR:Does 144 b g cap I op dcV R) (h:Rd w b g cap I.L I.len nx op) (hG:GlobB b w) (most:Nat) (hmost:most≤1000) :
  Calls Tryz.prog 143 #[.pointer (some ⟨b,0,none⟩),.int .i64 most,.func (.func 144) #[.pointer (some ⟨b,0,none⟩)] #[]] w (Post b g cap I op (rowV kDecl) nx w (Ps.row I R most [] nx)):=by
 have hb:=h.bb;have hg:=h.gb;go_enter Tryz.func143,Tryz.ntmps143;go_wp2;go_loopg [7] most (fun k v wr=>∃ (n:Nat) (acc:List De),k+acc.length=most∧OwnL kDecl w.heap.size wr v acc∧Rd wr b g cap I.L I.len n op∧Aside [b] w.heap.size w wr∧nx≤n∧Hid (Ps.row I R most [] nx=Ps.row I R k acc n))
 case atStart=>exact ⟨nx,[],rfl,OwnL.nil,h,Aside.refl _,Nat.le_refl _,rfl⟩
 case round=>
  obtain ⟨n,acc,hk,hown,hr,hA,hle,hmod⟩:=hrel;obtain ⟨aa,cc,rfl,hc1,hc2⟩:=hown.form;unfold maxLen at hc2;have zr:=hA.size;by_cases hz:gk=0
  ·subst hz
   go_wp2_with fail;refine (allow_no hr _ _ (by omega)).mono ?_;rintro e w5 ⟨rfl,b5⟩;exact ⟨rfl,Post.fail (by rw [hmod.out];rfl) (hA.trans (aside b5) hA.size)⟩
  ·obtain ⟨f,rfl⟩:∃ f,gk=f+1:=⟨gk-1,by omega⟩
   go_wp2_with fail;refine (allow_yes _ _ _ (by omega) _).mono ?_;rintro e wr ⟨rfl,rfl⟩;go_wp2_with fail;refine (HR n _ hr (hG.far hA)).mono ?_;rintro e w7 ⟨a7,hres⟩;have A7:=hA.trans a7 zr;have own7:=hown.past a7 (by simp;omega);have z7:=A7.size;have y7:=a7.size
   cases ht:R n with
   | err c a=>
    rw [ht] at hres;obtain rfl:e=_:=hres;exact ⟨rfl,Post.fail (by rw [hmod.out,row_succ,ht];rfl) A7⟩
   | ok y n1=>
    rw [ht] at hres;obtain ⟨le7,h7,x7,rfl,hV⟩:=hres;obtain ⟨ad,nd,cd,rfl,hT⟩:=hV;have hmod2:Hid (Ps.row I R most [] nx=if Ps.sees I [44] n1=true then Ps.row I R f (acc++[y]) (n1+1) else .ok (acc++[y]) n1):=by
     show Ps.row I R most [] nx=_
     rw [hmod.out,row_succ,ht];rfl
    have hNb:=fun k hk=>(hown.lt k hk).2;have q1:kDecl.E (fun i=>wr.heap.size≤i) w7 [.string y.name,.int .u8 y.elem,.slice ad nd cd] y:=⟨_,rfl,hT⟩;have q2:(acc.length+1)*kDecl.bytes≤140737488355328:=(by show (acc.length+1)*48≤_;omega);have q3:acc.length+1≤maxLen:=(by unfold maxLen;omega);clear hmod ht a7 hown hr hA HR
    go_wp2_with (at_builtin;refine wpList_more kDecl rfl _ _ 44 50 rfl Tryz.underlying44 w.heap.size wr.heap.size _ acc (by rfl) own7 [.string y.name,.int .u8 y.elem,.slice ad nd cd] y q1 (by rfl) hNb zr z7 q2 q3 ?_;intro v8 w8 own8 b8 _ _)
    have h8:=h7.under b8 (by omega) (by omega);have A8:=A7.trans (aside b8) nR;refine (take_any h8 ⟨#[44]⟩ (by decide)).mono ?_;rintro e w9 ⟨rfl,h9,a9⟩;have es:(⟨#[44]⟩:ByteArray).data.toList=[44]:=rfl;rw [es] at h9;simp only [es];clear es;have A9:=A8.trans a9 A8.size;have own9:=own8.past a9 (by simp;omega);clear A8 a9 own8 h8 own7 h7 b8 A7 hNb q1
    cases hq:Ps.sees I [44] n1 with
    | true=>
     rw [hq] at h9 hmod2;go_wp2;go_roundg f
     case measure=>omega
     case rel=>exact ⟨n1+1,acc++[y],by simp;omega,own9,by simpa using h9,A9,by omega,hide (by simpa using hmod2.out)⟩
    | false=>
     rw [hq] at h9 hmod2;obtain ⟨a10,c10,rfl,_,_⟩:=own9.form;go_wp2;go_ret;exact Post.good (by rw [hmod2.out];rfl) A9 (by omega) (by simpa using h9) own9.row
theorem rowSize_any {w:World} {b g cap:Nat} {I:Inp} {nx op:Nat} {R:Nat→Res (List Tm)} (HR:Does 184 b g cap I op szV R) (h:Rd w b g cap I.L I.len nx op) (hG:GlobB b w) (most:Nat) (hmost:most≤1000) :
  Calls Tryz.prog 223 #[.pointer (some ⟨b,0,none⟩),.int .i64 most,.func (.func 184) #[.pointer (some ⟨b,0,none⟩)] #[]] w (Post b g cap I op (rowV kSize) nx w (Ps.row I R most [] nx)):=by
 have hb:=h.bb;have hg:=h.gb;go_enter Tryz.func223,Tryz.ntmps223;go_wp2;go_loopg [7] most (fun k v wr=>∃ (n:Nat) (acc:List (List Tm)),k+acc.length=most∧OwnL kSize w.heap.size wr v acc∧Rd wr b g cap I.L I.len n op∧Aside [b] w.heap.size w wr∧nx≤n∧Hid (Ps.row I R most [] nx=Ps.row I R k acc n))
 case atStart=>exact ⟨nx,[],rfl,OwnL.nil,h,Aside.refl _,Nat.le_refl _,rfl⟩
 case round=>
  obtain ⟨n,acc,hk,hown,hr,hA,hle,hmod⟩:=hrel;obtain ⟨aa,cc,rfl,hc1,hc2⟩:=hown.form;unfold maxLen at hc2;have zr:=hA.size;by_cases hz:gk=0
  ·subst hz
   go_wp2_with fail;refine (allow_no hr _ _ (by omega)).mono ?_;rintro e w5 ⟨rfl,b5⟩;exact ⟨rfl,Post.fail (by rw [hmod.out];rfl) (hA.trans (aside b5) hA.size)⟩
  ·obtain ⟨f,rfl⟩:∃ f,gk=f+1:=⟨gk-1,by omega⟩
   go_wp2_with fail;refine (allow_yes _ _ _ (by omega) _).mono ?_;rintro e wr ⟨rfl,rfl⟩;go_wp2_with fail;refine (HR n _ hr (hG.far hA)).mono ?_;rintro e w7 ⟨a7,hres⟩;have A7:=hA.trans a7 zr;have own7:=hown.past a7 (by simp;omega);have z7:=A7.size;have y7:=a7.size
   cases ht:R n with
   | err c a=>
    rw [ht] at hres;obtain rfl:e=_:=hres;exact ⟨rfl,Post.fail (by rw [hmod.out,row_succ,ht];rfl) A7⟩
   | ok y n1=>
    rw [ht] at hres;obtain ⟨le7,h7,x7,rfl,hV⟩:=hres;obtain ⟨ad,nd,cd,rfl⟩:=HTerms.slice hV;have hmod2:Hid (Ps.row I R most [] nx=if Ps.sees I [44] n1=true then Ps.row I R f (acc++[y]) (n1+1) else .ok (acc++[y]) n1):=by
     show Ps.row I R most [] nx=_
     rw [hmod.out,row_succ,ht];rfl
    have hNb:=fun k hk=>(hown.lt k hk).2;have q1:kSize.E (fun i=>wr.heap.size≤i) w7 [.slice ad nd cd] y:=⟨_,rfl,hV⟩;have q2:(acc.length+1)*kSize.bytes≤140737488355328:=(by show (acc.length+1)*24≤_;omega);have q3:acc.length+1≤maxLen:=(by unfold maxLen;omega);clear hmod ht a7 hown hr hA HR
    go_wp2_with (at_builtin;refine wpList_more kSize rfl _ _ 51 33 rfl Tryz.underlying51 w.heap.size wr.heap.size _ acc (by rfl) own7 [.slice ad nd cd] y q1 (by rfl) hNb zr z7 q2 q3 ?_;intro v8 w8 own8 b8 _ _)
    have h8:=h7.under b8 (by omega) (by omega);have A8:=A7.trans (aside b8) nR;refine (take_any h8 ⟨#[44]⟩ (by decide)).mono ?_;rintro e w9 ⟨rfl,h9,a9⟩;have es:(⟨#[44]⟩:ByteArray).data.toList=[44]:=rfl;rw [es] at h9;simp only [es];clear es;have A9:=A8.trans a9 A8.size;have own9:=own8.past a9 (by simp;omega);clear A8 a9 own8 h8 own7 h7 b8 A7 hNb q1
    cases hq:Ps.sees I [44] n1 with
    | true=>
     rw [hq] at h9 hmod2;go_wp2;go_roundg f
     case measure=>omega
     case rel=>exact ⟨n1+1,acc++[y],by simp;omega,own9,by simpa using h9,A9,by omega,hide (by simpa using hmod2.out)⟩
    | false=>
     rw [hq] at h9 hmod2;obtain ⟨a10,c10,rfl,_,_⟩:=own9.form;go_wp2;go_ret;exact Post.good (by rw [hmod2.out];rfl) A9 (by omega) (by simpa using h9) own9.row
theorem rowExpr_any {w:World} {b g cap:Nat} {I:Inp} {nx op:Nat} {R:Nat→Res Ex} (HR:Does 222 b g cap I op exV R) (h:Rd w b g cap I.L I.len nx op) (hG:GlobB b w) (most:Nat) (hmost:most≤1000) :
  Calls Tryz.prog 224 #[.pointer (some ⟨b,0,none⟩),.int .i64 most,.func (.func 222) #[.pointer (some ⟨b,0,none⟩)] #[]] w (Post b g cap I op (rowV kExpr) nx w (Ps.row I R most [] nx)):=by
 have hb:=h.bb;have hg:=h.gb;go_enter Tryz.func224,Tryz.ntmps224;go_wp2;go_loopg [7] most (fun k v wr=>∃ (n:Nat) (acc:List Ex),k+acc.length=most∧OwnL kExpr w.heap.size wr v acc∧Rd wr b g cap I.L I.len n op∧Aside [b] w.heap.size w wr∧nx≤n∧Hid (Ps.row I R most [] nx=Ps.row I R k acc n))
 case atStart=>exact ⟨nx,[],rfl,OwnL.nil,h,Aside.refl _,Nat.le_refl _,rfl⟩
 case round=>
  obtain ⟨n,acc,hk,hown,hr,hA,hle,hmod⟩:=hrel;obtain ⟨aa,cc,rfl,hc1,hc2⟩:=hown.form;unfold maxLen at hc2;have zr:=hA.size;by_cases hz:gk=0
  ·subst hz
   go_wp2_with fail;refine (allow_no hr _ _ (by omega)).mono ?_;rintro e w5 ⟨rfl,b5⟩;exact ⟨rfl,Post.fail (by rw [hmod.out];rfl) (hA.trans (aside b5) hA.size)⟩
  ·obtain ⟨f,rfl⟩:∃ f,gk=f+1:=⟨gk-1,by omega⟩
   go_wp2_with fail;refine (allow_yes _ _ _ (by omega) _).mono ?_;rintro e wr ⟨rfl,rfl⟩;go_wp2_with fail;refine (HR n _ hr (hG.far hA)).mono ?_;rintro e w7 ⟨a7,hres⟩;have A7:=hA.trans a7 zr;have own7:=hown.past a7 (by simp;omega);have z7:=A7.size;have y7:=a7.size
   cases ht:R n with
   | err c a=>
    rw [ht] at hres;obtain rfl:e=_:=hres;exact ⟨rfl,Post.fail (by rw [hmod.out,row_succ,ht];rfl) A7⟩
   | ok y n1=>
    rw [ht] at hres;obtain ⟨le7,h7,x7,rfl,hV⟩:=hres;obtain ⟨x,rfl,hX⟩:=hV;have hmod2:Hid (Ps.row I R most [] nx=if Ps.sees I [44] n1=true then Ps.row I R f (acc++[y]) (n1+1) else .ok (acc++[y]) n1):=by
     show Ps.row I R most [] nx=_
     rw [hmod.out,row_succ,ht];rfl
    have hNb:=fun k hk=>(hown.lt k hk).2;have q1:kExpr.E (fun i=>wr.heap.size≤i) w7 [.int .i64 x.op,.int .i64 x.k,.int .i64 x.n,.string x.name,.slice x.aS x.nS x.cS,.slice x.aL x.nL x.cL] y:=hX;have q2:(acc.length+1)*kExpr.bytes≤140737488355328:=(by show (acc.length+1)*88≤_;omega);have q3:acc.length+1≤maxLen:=(by unfold maxLen;omega);clear hmod ht a7 hown hr hA HR
    go_wp2_with (at_builtin;refine wpList_more kExpr rfl _ _ 52 54 rfl Tryz.underlying52 w.heap.size wr.heap.size _ acc (by rfl) own7 [.int .i64 x.op,.int .i64 x.k,.int .i64 x.n,.string x.name,.slice x.aS x.nS x.cS,.slice x.aL x.nL x.cL] y q1 (by rfl) hNb zr z7 q2 q3 ?_;intro v8 w8 own8 b8 _ _)
    have h8:=h7.under b8 (by omega) (by omega);have A8:=A7.trans (aside b8) nR;refine (take_any h8 ⟨#[44]⟩ (by decide)).mono ?_;rintro e w9 ⟨rfl,h9,a9⟩;have es:(⟨#[44]⟩:ByteArray).data.toList=[44]:=rfl;rw [es] at h9;simp only [es];clear es;have A9:=A8.trans a9 A8.size;have own9:=own8.past a9 (by simp;omega);clear A8 a9 own8 h8 own7 h7 b8 A7 hNb q1
    cases hq:Ps.sees I [44] n1 with
    | true=>
     rw [hq] at h9 hmod2;go_wp2;go_roundg f
     case measure=>omega
     case rel=>exact ⟨n1+1,acc++[y],by simp;omega,own9,by simpa using h9,A9,by omega,hide (by simpa using hmod2.out)⟩
    | false=>
     rw [hq] at h9 hmod2;obtain ⟨a10,c10,rfl,_,_⟩:=own9.form;go_wp2;go_ret;exact Post.good (by rw [hmod2.out];rfl) A9 (by omega) (by simpa using h9) own9.row
end Go.Proofs.YtkfgbhlpjkkgfaaGreatDoor
