import Derived.Test.YtkfgbhlpjkkgfaaGreatDoorN14
set_option linter.unusedVariables false
set_option linter.unusedSimpArgs false
set_option maxHeartbeats 64000000
set_option maxRecDepth 100000
namespace Go.Proofs.YtkfgbhlpjkkgfaaGreatDoor
open Go.RowKit Go.IntWalk
namespace Kd
def declC1 (E:Env) (d:De):Int:=if ((findD E.types d.name).isSome || hasN E.sizes d.name)=true then 8 else codeSz E.sizes d.n
end Kd
structure DeclP (ok:Nat→Prop) (w:World) (x:SB) (E:Kd.Env) (mk done:List ByteArray) (d:De) (r:Ending) (w':World):Prop where
 ret:r=.returned (.int .i64 (Kd.declC1 E d))
 asd:Aside x.maps w.heap.size w w'
 scp:Kd.declC1 E d=0→Scp ok w' x ⟨E.above,E.sizes,E.types++[d]⟩ mk done
theorem declare_any {ok:Nat→Prop} {w:World} {x:SB} {E:Kd.Env} {mk done:List ByteArray} (hS:Scp ok w x E mk done) {d:De} {ao:Option Addr} {n cap:Nat} (hu:HTerms ok w (.slice ao n cap) d.n) (hname:d.name.size≤maxLen) (hF:Rn.szF d.n) (hlen:E.types.length<1000000) :
  Calls Tryz.prog 82 #[.pointer (some ⟨x.b,0,none⟩),.agg #[.string d.name,.int .u8 d.elem,.slice ao n cap]] w (DeclP ok w x E mk done d):=by
 obtain ⟨R,hR⟩:=nmQ (Kd.declC1 E d);have HR:=hide hR;unfold Kd.declC1 at hR;have bA:Below w.heap.size w (w.alloc (.cells #[.string d.name,.int .u8 d.elem,.slice ao n cap] 50 (0,0))):=(Below.refl _ _).alloc nR _;have h1:=hS.keep bA;have hu1:=hu.under bA;have kA:=heap_new w (.cells #[.string d.name,.int .u8 d.elem,.slice ao n cap] 50 (0,0));have y2:x.m2<w.heap.size:=(by obtain ⟨f,a,_⟩:=hS.h2;exact a.lt);clear hS hu;go_enter Tryz.func82,Tryz.ntmps82;go_upto_region 1 with fail;generalize w.alloc (.cells #[.string d.name,.int .u8 d.elem,.slice ao n cap] 50 (0,0))=w1 at bA h1 kA hu1 ⊢;obtain ⟨te,ta,tn,tc,hv,_,_⟩:=h1.lookType hname;obtain ⟨v2,hv2⟩:=h1.lookSize hname;have kS:=h1.blk;have yA:=lt_of kA;have yS:=lt_of kS;have c0:=co kA 0;have c1:=co kA 1;have c2:=co kA 2;have e1:=co kS 1;have e2:=co kS 2;simp at c0 c1 c2 e1 e2;have HS1:=hide h1;have HU1:=hide hu1;have HQ1:=hide (show (Kd.findD E.types d.name).isSome=false→Kd.findD E.types d.name=none from fun h=>by simpa using h);generalize hq1:(Kd.findD E.types d.name).isSome=q1 at hv hR HQ1;generalize hq2:Kd.hasN E.sizes d.name=q2 at hv2 hR;clear h1 kS hu1;go_cut [6] (fun v6 wd=>v6=.bool q1∧Below w1.heap.size w1 wd)
 case first=>
  refine wp_region_late (fun w'=>Below w1.heap.size w1 w') (fun _=>false) (by kernel_rfl) ?_;have hH0:Below w1.heap.size w1 w1.drew:=(Below.refl _ _).drew;generalize w1.drew=wd0 at hH0 ⊢;refine' wpAnyL_take (i:=0) (oi:=⟨some 10,_,_,_,_,_⟩) (v:=_) rfl (by kernel_rfl) (by kernel_rfl) (by kernel_rfl) (by kernel_rfl) (fun _ _ _ h=>h) hH0 (by rfl) ?hyv ?o1
  case hyv=>
   intro wz hSw;go_simp
   try rfl
  try simp only [Act.put,sT,sZ,sS]
  refine' wpAnyL_take (i:=1) (oi:=⟨some 11,_,_,_,_,_⟩) (v:=_) rfl (by kernel_rfl) (by kernel_rfl) (by kernel_rfl) (by kernel_rfl) (fun _ _ _ h=>h) hH0 (by rfl) ?hyv ?o2
  case hyv=>
   intro wz hSw;go_simp
   try rfl
  try simp only [Act.put,sT,sZ,sS]
  refine' wpAnyL_take (i:=2) (oi:=⟨some 12,_,_,_,_,_⟩) (v:=_) rfl (by kernel_rfl) (by kernel_rfl) (by kernel_rfl) (by kernel_rfl) (fun _ _ _ h=>h) hH0 (by rfl) ?hyv ?o3
  case hyv=>
   intro wz hSw;go_simp
   try rfl
  try simp only [Act.put,sT,sZ,sS]
  refine' wpAnyL_take (i:=3) (oi:=⟨some 13,_,_,_,_,_⟩) (v:=_) rfl (by kernel_rfl) (by kernel_rfl) (by kernel_rfl) (by kernel_rfl) (fun _ _ _ h=>h) hH0 (by rfl) ?hyv ?o4
  case hyv=>
   intro wz hSw;have zc0:=(hSw.cell (p:=⟨x.b,2,none⟩) yS).trans e2;go_simp
   try rfl
  try simp only [Act.put,sT,sZ,sS]
  refine' wpAnyL_take (i:=4) (oi:=⟨some 14,_,_,_,_,_⟩) (v:=_) rfl (by kernel_rfl) (by kernel_rfl) (by kernel_rfl) (by kernel_rfl) (fun _ _ _ h=>h) hH0 (by rfl) ?hyv ?o5
  case hyv=>
   intro wz hSw;go_simp
   try rfl
  try simp only [Act.put,sT,sZ,sS]
  refine' wpAnyL_take (i:=5) (oi:=⟨some 15,_,_,_,_,_⟩) (v:=_) rfl (by kernel_rfl) (by kernel_rfl) (by kernel_rfl) (by kernel_rfl) (fun _ _ _ h=>h) hH0 (by rfl) ?hyv ?o6
  case hyv=>
   intro wz hSw;have zc0:=(hSw.cell (p:=⟨w.heap.size,0,none⟩) yA).trans c0;go_simp
   try rfl
  try simp only [Act.put,sT,sZ,sS]
  refine' wpAnyL_take (i:=6) (oi:=⟨some 16,_,_,_,_,_⟩) (v:=_) rfl (by kernel_rfl) (by kernel_rfl) (by kernel_rfl) (by kernel_rfl) (fun _ _ _ h=>h) hH0 (by rfl) ?hyv ?o7
  case hyv=>
   intro wz hSw;have hl:=hv _ hSw;go_simp
   try rfl
  try simp only [Act.put,sT,sZ,sS]
  refine' wpAnyL_take (i:=7) (oi:=⟨some 9,_,_,_,_,_⟩) (v:=_) rfl (by kernel_rfl) (by kernel_rfl) (by kernel_rfl) (by kernel_rfl) (fun _ _ _ h=>h) hH0 (by rfl) ?hyv ?o8
  case hyv=>
   intro wz hSw;go_simp
   try rfl
  try simp only [Act.put,sT,sZ,sS]
  refine' wpAnyL_take (i:=8) (oi:=⟨some 17,_,_,_,_,_⟩) (v:=_) rfl (by kernel_rfl) (by kernel_rfl) (by kernel_rfl) (by kernel_rfl) (fun _ _ _ h=>h) hH0 (by rfl) ?hyv ?o9
  case hyv=>
   intro wz hSw;go_simp
   try rfl
  try simp only [Act.put,sT,sZ,sS]
  refine' wpAnyL_take (i:=9) (oi:=⟨some 18,_,_,_,_,_⟩) (v:=_) rfl (by kernel_rfl) (by kernel_rfl) (by kernel_rfl) (by kernel_rfl) (fun _ _ _ h=>h) hH0 (by rfl) ?hyv ?o10
  case hyv=>
   intro wz hSw;go_simp
   try rfl
  try simp only [Act.put,sT,sZ,sS]
  refine wpAnyL_one (i:=10) (o:=_) rfl (by kernel_rfl) (by rfl) (fun K hK=>?_);go_simp;have hH1:Below w1.heap.size w1 (wd0.alloc (.cells #[.int .u8 0,.slice none 0 0] 35 (0,0))):=hH0.alloc hH0.size _;have kn1:=heap_new wd0 (.cells #[.int .u8 0,.slice none 0 0] 35 (0,0));have yn1:w1.heap.size≤wd0.heap.size:=hH0.size;refine hK.out _ _ (fun _=>hH1) ?_;clear hK K
  try simp only [Act.put,sT,sZ,sS]
  generalize wd0.alloc (.cells #[.int .u8 0,.slice none 0 0] 35 (0,0))=wd1 at hH1 kn1 ⊢;refine wpAnyL_one (i:=11) (o:=_) rfl (by kernel_rfl) (by rfl) (fun K hK=>?_);have st0:=co kn1 0;have st1:=co kn1 1;have fr0:=fo kn1 0;have fr1:=fo kn1 1;simp at st0 st1;go_simp;have hH2:Below w1.heap.size w1 ((wd1.setCell ⟨wd0.heap.size,0,none⟩ (.int .u8 te)).setCell ⟨wd0.heap.size,1,none⟩ (.slice ta tn tc)):=(Below.setCell (Below.setCell hH1 (p:=⟨wd0.heap.size,0,none⟩) yn1 (.int .u8 te)) (p:=⟨wd0.heap.size,1,none⟩) yn1 (.slice ta tn tc));refine hK.out _ _ (fun _=>hH2) ?_;clear hK K
  try simp only [Act.put,sT,sZ,sS]
  generalize ((wd1.setCell ⟨wd0.heap.size,0,none⟩ (.int .u8 te)).setCell ⟨wd0.heap.size,1,none⟩ (.slice ta tn tc))=wd2 at hH2 ⊢;clear kn1 yn1 st0 fr0 st1 fr1;refine' wpAnyL_take (i:=12) (oi:=⟨some 6,_,_,_,_,_⟩) (v:=_) rfl (by kernel_rfl) (by kernel_rfl) (by kernel_rfl) (by kernel_rfl) (fun _ _ _ h=>h) hH2 (by rfl) ?hyv ?o11
  case hyv=>
   intro wz hSw;go_simp
   try rfl
  try simp only [Act.put,sT,sZ,sS]
  refine wpAnyL_done (by kernel_rfl) ?_ _;go_wp2_with fail;go_meet
  case rel=>exact ⟨rfl,hH2⟩
 case rest=>
  obtain ⟨rfl,bc⟩:=hcut;obtain ⟨w2,hw2⟩:=nmQ (wc);rw [←hw2] at bc ⊢;clear hw2;have f0:=(bc.cell (p:=⟨w.heap.size,0,none⟩) yA).trans c0;have f1:=(bc.cell (p:=⟨x.b,1,none⟩) yS).trans e1;have zA:=Nat.lt_of_lt_of_le yA bc.size;have zS:=Nat.lt_of_lt_of_le yS bc.size;have hv3:=fun w' (hb:Below w2.heap.size w2 w')=>hv2 w' (bc.trans (hb.mono bc.size));clear hv hv2;go_upto_region 2 with fail;go_cut [8] (fun v8 wd=>v8=.bool q2∧Below w2.heap.size w2 wd)
  case first=>
   refine wp_region_late (fun w'=>Below w2.heap.size w2 w') (fun _=>false) (by kernel_rfl) ?_;have hH0:Below w2.heap.size w2 w2.drew:=(Below.refl _ _).drew;generalize w2.drew=wd0 at hH0 ⊢;refine' wpAnyL_take (i:=0) (oi:=⟨some 20,_,_,_,_,_⟩) (v:=_) rfl (by kernel_rfl) (by kernel_rfl) (by kernel_rfl) (by kernel_rfl) (fun _ _ _ h=>h) hH0 (by rfl) ?hyv ?o12
   case hyv=>
    intro wz hSw;go_simp
    try rfl
   try simp only [Act.put,sT,sZ,sS]
   refine' wpAnyL_take (i:=1) (oi:=⟨some 21,_,_,_,_,_⟩) (v:=_) rfl (by kernel_rfl) (by kernel_rfl) (by kernel_rfl) (by kernel_rfl) (fun _ _ _ h=>h) hH0 (by rfl) ?hyv ?o13
   case hyv=>
    intro wz hSw;go_simp
    try rfl
   try simp only [Act.put,sT,sZ,sS]
   refine' wpAnyL_take (i:=2) (oi:=⟨some 22,_,_,_,_,_⟩) (v:=_) rfl (by kernel_rfl) (by kernel_rfl) (by kernel_rfl) (by kernel_rfl) (fun _ _ _ h=>h) hH0 (by rfl) ?hyv ?o14
   case hyv=>
    intro wz hSw;go_simp
    try rfl
   try simp only [Act.put,sT,sZ,sS]
   refine' wpAnyL_take (i:=3) (oi:=⟨some 23,_,_,_,_,_⟩) (v:=_) rfl (by kernel_rfl) (by kernel_rfl) (by kernel_rfl) (by kernel_rfl) (fun _ _ _ h=>h) hH0 (by rfl) ?hyv ?o15
   case hyv=>
    intro wz hSw;have zc0:=(hSw.cell (p:=⟨x.b,1,none⟩) zS).trans f1;go_simp
    try rfl
   try simp only [Act.put,sT,sZ,sS]
   refine' wpAnyL_take (i:=4) (oi:=⟨some 24,_,_,_,_,_⟩) (v:=_) rfl (by kernel_rfl) (by kernel_rfl) (by kernel_rfl) (by kernel_rfl) (fun _ _ _ h=>h) hH0 (by rfl) ?hyv ?o16
   case hyv=>
    intro wz hSw;go_simp
    try rfl
   try simp only [Act.put,sT,sZ,sS]
   refine' wpAnyL_take (i:=5) (oi:=⟨some 25,_,_,_,_,_⟩) (v:=_) rfl (by kernel_rfl) (by kernel_rfl) (by kernel_rfl) (by kernel_rfl) (fun _ _ _ h=>h) hH0 (by rfl) ?hyv ?o17
   case hyv=>
    intro wz hSw;have zc0:=(hSw.cell (p:=⟨w.heap.size,0,none⟩) zA).trans f0;go_simp
    try rfl
   try simp only [Act.put,sT,sZ,sS]
   refine' wpAnyL_take (i:=6) (oi:=⟨some 26,_,_,_,_,_⟩) (v:=_) rfl (by kernel_rfl) (by kernel_rfl) (by kernel_rfl) (by kernel_rfl) (fun _ _ _ h=>h) hH0 (by rfl) ?hyv ?o18
   case hyv=>
    intro wz hSw;have hl:=hv3 _ hSw;go_simp
    try rfl
   try simp only [Act.put,sT,sZ,sS]
   refine' wpAnyL_take (i:=7) (oi:=⟨some 19,_,_,_,_,_⟩) (v:=_) rfl (by kernel_rfl) (by kernel_rfl) (by kernel_rfl) (by kernel_rfl) (fun _ _ _ h=>h) hH0 (by rfl) ?hyv ?o19
   case hyv=>
    intro wz hSw;go_simp
    try rfl
   try simp only [Act.put,sT,sZ,sS]
   refine' wpAnyL_take (i:=8) (oi:=⟨some 27,_,_,_,_,_⟩) (v:=_) rfl (by kernel_rfl) (by kernel_rfl) (by kernel_rfl) (by kernel_rfl) (fun _ _ _ h=>h) hH0 (by rfl) ?hyv ?o20
   case hyv=>
    intro wz hSw;go_simp
    try rfl
   try simp only [Act.put,sT,sZ,sS]
   refine' wpAnyL_take (i:=9) (oi:=⟨some 28,_,_,_,_,_⟩) (v:=_) rfl (by kernel_rfl) (by kernel_rfl) (by kernel_rfl) (by kernel_rfl) (fun _ _ _ h=>h) hH0 (by rfl) ?hyv ?o21
   case hyv=>
    intro wz hSw;go_simp
    try rfl
   try simp only [Act.put,sT,sZ,sS]
   refine' wpAnyL_take (i:=10) (oi:=⟨some 7,_,_,_,_,_⟩) (v:=_) rfl (by kernel_rfl) (by kernel_rfl) (by kernel_rfl) (by kernel_rfl) (fun _ _ _ h=>h) hH0 (by rfl) ?hyv ?o22
   case hyv=>
    intro wz hSw;go_simp
    try rfl
   try simp only [Act.put,sT,sZ,sS]
   refine' wpAnyL_take (i:=11) (oi:=⟨some 8,_,_,_,_,_⟩) (v:=_) rfl (by kernel_rfl) (by kernel_rfl) (by kernel_rfl) (by kernel_rfl) (fun _ _ _ h=>h) hH0 (by rfl) ?hyv ?o23
   case hyv=>
    intro wz hSw;go_simp
    try rfl
   try simp only [Act.put,sT,sZ,sS]
   refine wpAnyL_done (by kernel_rfl) ?_ _;go_wp2_with fail;go_meet
   case rel=>exact ⟨rfl,hH0⟩
  case rest=>
   obtain ⟨rfl,bd⟩:=hcut;obtain ⟨w3,hw3⟩:=nmQ (wc);rw [←hw3] at bd ⊢;clear hw3 hv3 f0 f1;have B3:Below w1.heap.size w1 w3:=bc.trans (bd.mono bc.size);have BW:=bA.trans (B3.mono bA.size);by_cases hq:(q1 || q2)=true
   case pos=>
    rw [if_pos hq] at hR
    cases q1
    ·cases q2
     ·cases hq
     ·go_wp2
      go_ret;exact ⟨by rw [←HR.out,hR];rfl,aside BW,fun h=>by rw [←HR.out,hR] at h;cases h⟩
    ·go_wp2
     go_ret;exact ⟨by rw [←HR.out,hR];rfl,aside BW,fun h=>by rw [←HR.out,hR] at h;cases h⟩
   case neg=>
    rw [if_neg hq] at hR;obtain ⟨rfl,rfl⟩:q1=false∧q2=false:=by cases q1<;>cases q2<;>simp at hq ⊢
    clear hq;have hS3:=HS1.out.keep B3;have hU3:=HU1.out.under B3;have kA3:=(B3.block _ yA).trans kA;have kS3:=hS3.blk;have zA:=lt_of kA3;have zS:=lt_of kS3;have g0:=co kA3 0;have g1:=co kA3 1;have g2:=co kA3 2;have j2:=co kS3 2;simp at g0 g1 g2 j2;obtain ⟨ff,hm,hT⟩:=hS3.h2;have HTF:=hide hT;have HS3:=hide hS3;have HU3:=hide hU3;have HKA3:=hide kA3;have hDR:w3.drew=w3.drew:=rfl;obtain ⟨w4,hrun,hm4,hg4⟩:=MapIs.put (w:=w3.drew) (hm.keep rfl) u134 (by unfold maxLen;omega) hname (.agg #[.int .u8 d.elem,.slice ao n cap]);have HM4:=hide hm4;have HG4:=hide hg4;clear hS3 hU3 kA3 kS3 hT hm hm4 hg4 hDR;go_upto_region 5 with fail;go_cut [] (fun wd=>wd=w4)
    case first=>
     refine wp_region_late (fun w'=>w'=w3.drew) (fun j=>j==8) (by kernel_rfl) ?_;have hH0:w3.drew=w3.drew:=rfl;refine' wpAnyL_take (i:=0) (oi:=⟨some 33,_,_,_,_,_⟩) (v:=_) rfl (by kernel_rfl) (by kernel_rfl) (by kernel_rfl) (by kernel_rfl) (fun _ _ _ h=>h) hH0 (by rfl) ?hyv ?o24
     case hyv=>
      intro wz hSw;subst hSw;go_simp
      try rfl
     try simp only [Act.put,sT,sZ,sS]
     refine' wpAnyL_take (i:=1) (oi:=⟨some 34,_,_,_,_,_⟩) (v:=_) rfl (by kernel_rfl) (by kernel_rfl) (by kernel_rfl) (by kernel_rfl) (fun _ _ _ h=>h) hH0 (by rfl) ?hyv ?o25
     case hyv=>
      intro wz hSw;subst hSw;go_simp
      try rfl
     try simp only [Act.put,sT,sZ,sS]
     refine' wpAnyL_take (i:=2) (oi:=⟨some 35,_,_,_,_,_⟩) (v:=_) rfl (by kernel_rfl) (by kernel_rfl) (by kernel_rfl) (by kernel_rfl) (fun _ _ _ h=>h) hH0 (by rfl) ?hyv ?o26
     case hyv=>
      intro wz hSw;subst hSw;go_simp
      try rfl
     try simp only [Act.put,sT,sZ,sS]
     refine' wpAnyL_take (i:=3) (oi:=⟨some 36,_,_,_,_,_⟩) (v:=_) rfl (by kernel_rfl) (by kernel_rfl) (by kernel_rfl) (by kernel_rfl) (fun _ _ _ h=>h) hH0 (by rfl) ?hyv ?o27
     case hyv=>
      intro wz hSw;subst hSw;have zc0:w3.drew.cell? ⟨x.b,2,none⟩=_:=j2;go_simp
      try rfl
     try simp only [Act.put,sT,sZ,sS]
     refine' wpAnyL_take (i:=4) (oi:=⟨some 37,_,_,_,_,_⟩) (v:=_) rfl (by kernel_rfl) (by kernel_rfl) (by kernel_rfl) (by kernel_rfl) (fun _ _ _ h=>h) hH0 (by rfl) ?hyv ?o28
     case hyv=>
      intro wz hSw;subst hSw;go_simp
      try rfl
     try simp only [Act.put,sT,sZ,sS]
     refine' wpAnyL_take (i:=5) (oi:=⟨some 38,_,_,_,_,_⟩) (v:=_) rfl (by kernel_rfl) (by kernel_rfl) (by kernel_rfl) (by kernel_rfl) (fun _ _ _ h=>h) hH0 (by rfl) ?hyv ?o29
     case hyv=>
      intro wz hSw;subst hSw;have zc0:w3.drew.cell? ⟨w.heap.size,0,none⟩=_:=g0;go_simp
      try rfl
     try simp only [Act.put,sT,sZ,sS]
     refine' wpAnyL_take (i:=6) (oi:=⟨some 39,_,_,_,_,_⟩) (v:=_) rfl (by kernel_rfl) (by kernel_rfl) (by kernel_rfl) (by kernel_rfl) (fun _ _ _ h=>h) hH0 (by rfl) ?hyv ?o30
     case hyv=>
      intro wz hSw;subst hSw;go_simp
      try rfl
     try simp only [Act.put,sT,sZ,sS]
     refine' wpAnyL_take (i:=7) (oi:=⟨some 40,_,_,_,_,_⟩) (v:=_) rfl (by kernel_rfl) (by kernel_rfl) (by kernel_rfl) (by kernel_rfl) (fun _ _ _ h=>h) hH0 (by rfl) ?hyv ?o31
     case hyv=>
      intro wz hSw;subst hSw;have zc0:w3.drew.cell? ⟨w.heap.size,1,none⟩=_:=g1;have zc1:w3.drew.cell? ⟨w.heap.size,1+1,none⟩=_:=g2;go_simp
      try rfl
     try simp only [Act.put,sT,sZ,sS]
     refine wpAnyL_one (i:=8) (o:=_) rfl (by kernel_rfl) (by rfl) (fun K hK=>?_);go_simp;refine hK.out _ _ (fun h=>absurd h (by decide)) ?_;clear hK K
     try simp only [Act.put,sT,sZ,sS]
     refine wpAnyL_done (by kernel_rfl) ?_ _;go_wp2_with fail;go_meet
     case rel=>exact rfl
    case rest=>
     obtain rfl:=hcut;have hg:=HG4.out;have hS4:Scp ok wc x ⟨E.above,E.sizes,E.types++[d]⟩ mk done:=(HS3.out.keep (Below.drew (Below.refl _ _))).afterType (f:=ff) (HTF.out.keep nR (fun _ _ _=>rfl)) HM4.out hg ⟨_,rfl,HU3.out.under (Below.drew (Below.refl _ _))⟩ (HQ1.out rfl);have hnm2:=(HS3.out).n2;have kA4:=keepNe hg (show w3.drew.heap[w.heap.size]?=_ from HKA3.out) (fun e=>by omega);have hU4:HTerms ok wc (.slice ao n cap) d.n:=(HU3.out.under (Below.drew (Below.refl _ _))).keep (w':=wc) hg.size (keepOk hnm2 hg);have hc:=kcodeOfSize_any hS4 hU4 hF;have l0:=co kA4 0;have l1:=co kA4 1;have l2:=co kA4 2;simp at l0 l1 l2;clear HTF HS3 HU3 HM4 hU4 kA4;go_wp2_with fail;refine hc.mono ?_;rintro r w5 ⟨rfl,b5⟩;go_wp2;go_ret;refine ⟨by rw [←HR.out,hR];rfl,?_,fun _=>hS4.keep b5⟩;have a1:Aside x.maps w.heap.size w w3.drew:=aside (Below.drew BW);have a2:Aside x.maps w.heap.size w3.drew wc:=aside_grown (by simp [SB.maps]) hg a1.size;have a3:Aside x.maps wc.heap.size wc w5:=aside b5;exact (a1.trans a2 nR).trans a3 (Nat.le_trans a1.size a2.size)
end Go.Proofs.YtkfgbhlpjkkgfaaGreatDoor
namespace Go.Proofs.YtkfgbhlpjkkgfaaGreatDoor
open Go.RowKit Go.IntWalk
theorem Scp.okOut {ok:Nat→Prop} {w:World} {x:SB} {E:Kd.Env} {mk done:List ByteArray} (h:Scp ok w x E mk done):∀ i,ok i→i ∉ x.maps:=by
 intro i hi hm;simp only [SB.maps,List.mem_cons,List.not_mem_nil,or_false] at hm;rcases hm with rfl | rfl | rfl | rfl
 ·exact h.n0 hi
 ·exact h.n1 hi
 ·exact h.n2 hi
 ·exact h.n3 hi
theorem declareToMake_any {ok:Nat→Prop} {w:World} {x:SB} {E:Kd.Env} {mk:List ByteArray} (hS:Scp ok w x E mk []) {d:De} {ao:Option Addr} {n cap:Nat} (hu:HTerms ok w (.slice ao n cap) d.n) (hname:d.name.size≤maxLen) (hF:Rn.szF d.n) (hlen:E.types.length<1000000) (hmk:mk.length<1000000) :
  Calls Tryz.prog 83 #[.pointer (some ⟨x.b,0,none⟩),.agg #[.string d.name,.int .u8 d.elem,.slice ao n cap]] w (DeclP ok w x E (mk++[d.name]) [] d):=by
 have bA:Below w.heap.size w (w.alloc (.cells #[.string d.name,.int .u8 d.elem,.slice ao n cap] 50 (0,0))):=(Below.refl _ _).alloc nR _;have h1:=hS.keep bA;have hu1:=hu.under bA;have kA:=heap_new w (.cells #[.string d.name,.int .u8 d.elem,.slice ao n cap] 50 (0,0));have y3:x.m3<w.heap.size:=(by obtain ⟨f,a,_⟩:=hS.h3;exact a.lt);clear hS hu;go_enter Tryz.func83,Tryz.ntmps83;go_upto_region 1 with fail;generalize w.alloc (.cells #[.string d.name,.int .u8 d.elem,.slice ao n cap] 50 (0,0))=w1 at bA h1 kA hu1 ⊢;have kS:=h1.blk;have g0:=co kA 0;have j3:=co kS 3;simp at g0 j3;obtain ⟨ff,hm,hT⟩:=h1.h3;have HTF:=hide hT;have HS1:=hide h1;have HU1:=hide hu1;have HKA:=hide kA;obtain ⟨w2,hrun,hm2,hg2⟩:=MapIs.put (w:=w1.drew) (hm.keep rfl) u133 (by unfold maxLen;simp;omega) hname (.int .i64 0);have HM2:=hide hm2;have HG2:=hide hg2;clear h1 hu1 kA kS hT hm hm2 hg2;go_cut [] (fun wd=>wd=w2)
 case first=>
  refine wp_region_late (fun w'=>w'=w1.drew) (fun j=>j==6) (by kernel_rfl) ?_;have hH0:w1.drew=w1.drew:=rfl;refine' wpAnyL_take (i:=0) (oi:=⟨some 5,_,_,_,_,_⟩) (v:=_) rfl (by kernel_rfl) (by kernel_rfl) (by kernel_rfl) (by kernel_rfl) (fun _ _ _ h=>h) hH0 (by rfl) ?hyv ?o1
  case hyv=>
   intro wz hSw;subst hSw;go_simp
   try rfl
  try simp only [Act.put,sT,sZ,sS]
  refine' wpAnyL_take (i:=1) (oi:=⟨some 6,_,_,_,_,_⟩) (v:=_) rfl (by kernel_rfl) (by kernel_rfl) (by kernel_rfl) (by kernel_rfl) (fun _ _ _ h=>h) hH0 (by rfl) ?hyv ?o2
  case hyv=>
   intro wz hSw;subst hSw;go_simp
   try rfl
  try simp only [Act.put,sT,sZ,sS]
  refine' wpAnyL_take (i:=2) (oi:=⟨some 7,_,_,_,_,_⟩) (v:=_) rfl (by kernel_rfl) (by kernel_rfl) (by kernel_rfl) (by kernel_rfl) (fun _ _ _ h=>h) hH0 (by rfl) ?hyv ?o3
  case hyv=>
   intro wz hSw;subst hSw;go_simp
   try rfl
  try simp only [Act.put,sT,sZ,sS]
  refine' wpAnyL_take (i:=3) (oi:=⟨some 8,_,_,_,_,_⟩) (v:=_) rfl (by kernel_rfl) (by kernel_rfl) (by kernel_rfl) (by kernel_rfl) (fun _ _ _ h=>h) hH0 (by rfl) ?hyv ?o4
  case hyv=>
   intro wz hSw;subst hSw;have zc0:w1.drew.cell? ⟨x.b,3,none⟩=_:=j3;go_simp
   try rfl
  try simp only [Act.put,sT,sZ,sS]
  refine' wpAnyL_take (i:=4) (oi:=⟨some 9,_,_,_,_,_⟩) (v:=_) rfl (by kernel_rfl) (by kernel_rfl) (by kernel_rfl) (by kernel_rfl) (fun _ _ _ h=>h) hH0 (by rfl) ?hyv ?o5
  case hyv=>
   intro wz hSw;subst hSw;go_simp
   try rfl
  try simp only [Act.put,sT,sZ,sS]
  refine' wpAnyL_take (i:=5) (oi:=⟨some 10,_,_,_,_,_⟩) (v:=_) rfl (by kernel_rfl) (by kernel_rfl) (by kernel_rfl) (by kernel_rfl) (fun _ _ _ h=>h) hH0 (by rfl) ?hyv ?o6
  case hyv=>
   intro wz hSw;subst hSw;have zc0:w1.drew.cell? ⟨w.heap.size,0,none⟩=_:=g0;go_simp
   try rfl
  try simp only [Act.put,sT,sZ,sS]
  refine wpAnyL_one (i:=6) (o:=_) rfl (by kernel_rfl) (by rfl) (fun K hK=>?_);go_simp;refine hK.out _ _ (fun h=>absurd h (by decide)) ?_;clear hK K
  try simp only [Act.put,sT,sZ,sS]
  refine wpAnyL_done (by kernel_rfl) ?_ _;go_wp2_with fail;go_meet
  case rel=>exact rfl
 case rest=>
  obtain rfl:=hcut;have hg:=HG2.out;have hS2:Scp ok wc x E (mk++[d.name]) []:=(HS1.out.keep (Below.drew (Below.refl _ _))).afterMk (f:=ff) HTF.out (by simpa using HM2.out) hg;have kA2:=keepNe hg (show w1.drew.heap[w.heap.size]?=_ from HKA.out) (fun e=>by omega);have hU2:HTerms ok wc (.slice ao n cap) d.n:=(HU1.out.under (Below.drew (Below.refl _ _))).keep (w':=wc) hg.size (keepOk HS1.out.n3 hg);have hc:=declare_any hS2 hU2 hname hF hlen;have l0:=co kA2 0;have l1:=co kA2 1;have l2:=co kA2 2;simp at l0 l1 l2;clear HTF HS1 HU1 HM2 hU2 kA2 hS2;go_wp2_with fail;refine hc.mono ?_;rintro r w5 ⟨rfl,a5,hS5⟩;go_wp2;go_ret;refine ⟨rfl,?_,hS5⟩;have a1:Aside x.maps w.heap.size w w1.drew:=aside (Below.drew bA);have a2:Aside x.maps w.heap.size w1.drew wc:=aside_grown (by simp [SB.maps]) hg a1.size;exact (a1.trans a2 nR).trans a5 (Nat.le_trans a1.size a2.size)
theorem declC_cons (sizes:List ByteArray) (ab:List Nd) (had:List De) (d:De) (r:List De):Kd.declC sizes had (d :: r)=if Kd.declC1 ⟨ab,sizes,had⟩ d≠0 then Kd.declC1 ⟨ab,sizes,had⟩ d else Kd.declC sizes (had++[d]) r:=by
 show (if ((Kd.findD had d.name).isSome || Kd.hasN sizes d.name)=true then 8 else if Kd.codeSz sizes d.n≠0 then Kd.codeSz sizes d.n else Kd.declC sizes (had++[d]) r)=_
 unfold Kd.declC1
 dsimp only
 by_cases h:((Kd.findD had d.name).isSome || Kd.hasN sizes d.name)=true
 ·rw [if_pos h,if_pos h,if_pos (by simp)]
 ·rw [if_neg h,if_neg h]
structure DeclsP (ok:Nat→Prop) (w:World) (x:SB) (E:Kd.Env) (mk done:List ByteArray) (l:List De) (r:Ending) (w':World):Prop where
 ret:r=.returned (.int .i64 (Kd.declC E.sizes E.types l))
 asd:Aside x.maps w.heap.size w w'
 scp:Kd.declC E.sizes E.types l=0→Scp ok w' x ⟨E.above,E.sizes,E.types++l⟩ mk done
theorem kdecls_any {ok:Nat→Prop} {w:World} {x:SB} {E:Kd.Env} {mk done:List ByteArray} (hS:Scp ok w x E mk done) {v:Value} {l:List De} (hl:HDes ok w v l) (hF:∀ d ∈ l,Rn.deF d) (hlen:E.types.length+l.length<1000000) :
  Calls Tryz.prog 81 #[v,.func (.func 82) #[.pointer (some ⟨x.b,0,none⟩)] #[]] w (DeclsP ok w x E mk done l):=by
 obtain ⟨ao,cap,rfl,hc1,hc2,hat⟩:=hl.at;unfold maxLen at hc2;obtain ⟨R,hR⟩:=nmQ (Kd.declC E.sizes E.types l);have HR:=hide hR;have HF:=hide hF;have HS:=hide hS;have HOK:=hide hS.okOut;clear hR hF hS;obtain ⟨n,hn⟩:=nmQ (l.length);rw [←hn] at hc1 hlen ⊢;have HN:=hide hn;have HAT:=hide hat;have HL:=hide hl;clear hn hat hl;go_enter Tryz.func81,Tryz.ntmps81;go_wp2_with fail;go_loopg [10] n (fun k v wr=>∃ i,i≤n∧k=n-i∧v=.int .i64 (i:Nat)∧Hid (R=Kd.declC E.sizes (E.types++l.take i) (l.drop i))∧Hid (Scp ok wr x ⟨E.above,E.sizes,E.types++l.take i⟩ mk done)∧Aside x.maps w.heap.size w wr)
 case atStart=>exact ⟨0,Nat.zero_le _,rfl,rfl,hide (by simpa using HR.out),hide (by simpa using HS.out),Aside.refl _⟩
 case round=>
  obtain ⟨i,hi,rfl,rfl,H,HSc,hbr⟩:=hrel;by_cases hlt:i<n
  case neg=>
   have hin:i=n:=(by omega);subst hin;have e0:l.take i=l:=List.take_of_length_le (by have:=HN.out;omega);have e1:l.drop i=[]:=List.drop_of_length_le (by have:=HN.out;omega);have hz:R=0:=(by rw [H.out,e1];rfl);go_wp2;go_ret;refine ⟨by rw [←HR.out,hz];rfl,hbr,fun _=>?_⟩;have:=HSc.out;rw [e0] at this;exact this
  case pos=>
   have hil:i<l.length:=(by have:=HN.out;omega);have hfi:=HF.out _ (List.getElem_mem hil);have hdr:l.drop i=l[i] :: l.drop (i+1):=List.drop_eq_getElem_cons hil;have htk:l.take (i+1)=l.take i++[l[i]]:=List.take_succ_eq_append_getElem hil;have hR1:=H.out;rw [hdr,declC_cons E.sizes E.above] at hR1;have hl2:HDes ok wr (.slice ao l.length cap) l:=HL.out.keep hbr.size (fun j hj hjl=>hbr.block j hjl (HOK.out j hj));obtain ⟨ao',cap',eqs,_,_,hat2⟩:=hl2.at;injection eqs with q1 q2 q3;subst q1;obtain ⟨b,o,ua,un,uc,rfl,hb,c0,c1,c2,hu⟩:=hat2 i hil;obtain ⟨d,hd⟩:=nmQ (l[i]);rw [←hd] at hfi hR1 htk c0 c1 hu;clear hat2 hl2 q2 q3 hdr hd;have bA:Below wr.heap.size wr (wr.alloc (.cells #[.string d.name,.int .u8 d.elem,.slice ua un uc] 50 (0,0))):=(Below.refl _ _).alloc nR _;have htl:(l.take i).length=i:=(by rw [List.length_take];omega);have hcall:=declare_any (HSc.out.keep bA) (hu.under bA) hfi.1 hfi.2 (by show (E.types++l.take i).length<_;rw [List.length_append,htl];omega);have aA:Aside x.maps w.heap.size w (wr.alloc (.cells #[.string d.name,.int .u8 d.elem,.slice ua un uc] 50 (0,0))):=hbr.trans (aside (S:=x.maps) (B:=wr.heap.size) bA) hbr.size;clear hu;go_wp2_with fail;refine hcall.mono ?_;rintro e w4 ⟨rfl,a4,hS4⟩;have AW:=aA.trans a4 aA.size;obtain ⟨c,hcx⟩:=nmQ (Kd.declC1 ⟨E.above,E.sizes,E.types++l.take i⟩ d);rw [←hcx] at hS4 hR1;have HC:=hide hcx
   try rw [←hcx]
   clear hcx hcall;by_cases hz:c=0
   ·subst hz
    rw [if_neg (by simp)] at hR1;have hS5:=hide (hS4 rfl);clear hS4;go_wp2_with fail;go_roundg (n-(i+1))
    case measure=>omega
    case rel=>
     refine ⟨i+1,by omega,rfl,by go_num,hide ?_,hide ?_,AW⟩
     ·rw [hR1,htk,←List.append_assoc]
     ·have:=hS5.out
      rw [htk,←List.append_assoc]
      skip
      exact this
   ·rw [if_pos hz] at hR1
    have hz2:(c != 0)=true:=(by simpa using hz);clear hS4;go_wp2;go_ret;exact ⟨by rw [←HR.out,hR1];rfl,AW,fun h=>absurd (by rw [←HR.out,hR1] at h;exact h) hz⟩
theorem kdeclsM_any {ok:Nat→Prop} {w:World} {x:SB} {E:Kd.Env} {mk:List ByteArray} (hS:Scp ok w x E mk []) {v:Value} {l:List De} (hl:HDes ok w v l) (hF:∀ d ∈ l,Rn.deF d) (hlen:E.types.length+l.length<1000000) (hmk:mk.length+l.length<1000000) :
  Calls Tryz.prog 81 #[v,.func (.func 83) #[.pointer (some ⟨x.b,0,none⟩)] #[]] w (DeclsP ok w x E (mk++l.map De.name) [] l):=by
 obtain ⟨ao,cap,rfl,hc1,hc2,hat⟩:=hl.at;unfold maxLen at hc2;obtain ⟨R,hR⟩:=nmQ (Kd.declC E.sizes E.types l);have HR:=hide hR;have HF:=hide hF;have HS:=hide hS;have HOK:=hide hS.okOut;clear hR hF hS;obtain ⟨n,hn⟩:=nmQ (l.length);rw [←hn] at hc1 hlen hmk ⊢;have HN:=hide hn;have HAT:=hide hat;have HL:=hide hl;clear hn hat hl;go_enter Tryz.func81,Tryz.ntmps81;go_wp2_with fail;go_loopg [10] n (fun k v wr=>∃ i,i≤n∧k=n-i∧v=.int .i64 (i:Nat)∧Hid (R=Kd.declC E.sizes (E.types++l.take i) (l.drop i))∧Hid (Scp ok wr x ⟨E.above,E.sizes,E.types++l.take i⟩ (mk++(l.take i).map De.name) [])∧Aside x.maps w.heap.size w wr)
 case atStart=>exact ⟨0,Nat.zero_le _,rfl,rfl,hide (by simpa using HR.out),hide (by simpa using HS.out),Aside.refl _⟩
 case round=>
  obtain ⟨i,hi,rfl,rfl,H,HSc,hbr⟩:=hrel;by_cases hlt:i<n
  case neg=>
   have hin:i=n:=(by omega);subst hin;have e0:l.take i=l:=List.take_of_length_le (by have:=HN.out;omega);have e1:l.drop i=[]:=List.drop_of_length_le (by have:=HN.out;omega);have hz:R=0:=(by rw [H.out,e1];rfl);go_wp2;go_ret;refine ⟨by rw [←HR.out,hz];rfl,hbr,fun _=>?_⟩;have:=HSc.out;rw [e0] at this;exact this
  case pos=>
   have hil:i<l.length:=(by have:=HN.out;omega);have hfi:=HF.out _ (List.getElem_mem hil);have hdr:l.drop i=l[i] :: l.drop (i+1):=List.drop_eq_getElem_cons hil;have htk:l.take (i+1)=l.take i++[l[i]]:=List.take_succ_eq_append_getElem hil;have hR1:=H.out;rw [hdr,declC_cons E.sizes E.above] at hR1;have hl2:HDes ok wr (.slice ao l.length cap) l:=HL.out.keep hbr.size (fun j hj hjl=>hbr.block j hjl (HOK.out j hj));obtain ⟨ao',cap',eqs,_,_,hat2⟩:=hl2.at;injection eqs with q1 q2 q3;subst q1;obtain ⟨b,o,ua,un,uc,rfl,hb,c0,c1,c2,hu⟩:=hat2 i hil;obtain ⟨d,hd⟩:=nmQ (l[i]);rw [←hd] at hfi hR1 htk c0 c1 hu;clear hat2 hl2 q2 q3 hdr hd;have bA:Below wr.heap.size wr (wr.alloc (.cells #[.string d.name,.int .u8 d.elem,.slice ua un uc] 50 (0,0))):=(Below.refl _ _).alloc nR _;have htl:(l.take i).length=i:=(by rw [List.length_take];omega);have hcall:=declareToMake_any (HSc.out.keep bA) (hu.under bA) hfi.1 hfi.2 (by show (E.types++l.take i).length<_;rw [List.length_append,htl];omega) (by rw [List.length_append,List.length_map,htl];omega);have aA:Aside x.maps w.heap.size w (wr.alloc (.cells #[.string d.name,.int .u8 d.elem,.slice ua un uc] 50 (0,0))):=hbr.trans (aside (S:=x.maps) (B:=wr.heap.size) bA) hbr.size;clear hu;go_wp2_with fail;refine hcall.mono ?_;rintro e w4 ⟨rfl,a4,hS4⟩;have AW:=aA.trans a4 aA.size;obtain ⟨c,hcx⟩:=nmQ (Kd.declC1 ⟨E.above,E.sizes,E.types++l.take i⟩ d);rw [←hcx] at hS4 hR1;have HC:=hide hcx
   try rw [←hcx]
   clear hcx hcall;by_cases hz:c=0
   ·subst hz
    rw [if_neg (by simp)] at hR1;have hS5:=hide (hS4 rfl);clear hS4;go_wp2_with fail;go_roundg (n-(i+1))
    case measure=>omega
    case rel=>
     refine ⟨i+1,by omega,rfl,by go_num,hide ?_,hide ?_,AW⟩
     ·rw [hR1,htk,←List.append_assoc]
     ·have:=hS5.out
      rw [htk,←List.append_assoc];rw [List.map_append,←List.append_assoc];exact this
   ·rw [if_pos hz] at hR1
    have hz2:(c != 0)=true:=(by simpa using hz);clear hS4;go_wp2;go_ret;exact ⟨by rw [←HR.out,hR1];rfl,AW,fun h=>absurd (by rw [←HR.out,hR1] at h;exact h) hz⟩
end Go.Proofs.YtkfgbhlpjkkgfaaGreatDoor
