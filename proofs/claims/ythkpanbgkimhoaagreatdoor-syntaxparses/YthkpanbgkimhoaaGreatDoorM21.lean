import Derived.Test.YthkpanbgkimhoaaGreatDoorM20
import Derived.Test.YthkpanbgkimhoaaGreatDoorM05
import Derived.Deep.RegionLawGrows
set_option linter.unusedVariables false
set_option linter.unusedSimpArgs false
set_option maxHeartbeats 64000000
set_option maxRecDepth 100000
namespace Go.Proofs.YthkpanbgkimhoaaGreatDoor
open Go.RowKit Go.IntWalk
theorem refScan_any (s:ByteArray) (w:World) (hlim:s.size≤281474976710656) :
  Calls Tryz.prog 14 #[.string s] w fun e w'=>∃ v,e=.returned (.tuple #[v,.agg #[.int .i64 (Tk.scan s.data.toList).2.1,.int .i64 (Tk.scan s.data.toList).2.2]]) ∧
   w'.ownsRow (w.heap.size+1) 71 4 v (Tk.scan s.data.toList).1.length (toksCells (Tk.scan s.data.toList).1)∧Below w.heap.size w w':=by
 have hsz:s.data.toList.length=s.size:=(by rw [Lib.size_eq]);by_cases hbig:12000<s.size
 ·have e:Tk.scan s.data.toList=([],7,12000):=by simp [Tk.scan,hsz,hbig]
  rw [e];clear e hsz;go_enter Tryz.func14,Tryz.ntmps14;go_wp2_with fail;refine (vV _ _ _).mono ?_;rintro e w1 ⟨rfl,hb1⟩;obtain ⟨hc,hf⟩:=zBc hb1;go_wp2;refine bodyPost_ret (v:=.tuple #[.slice none 0 0,.agg #[.int .i64 7,.int .i64 12000]]) (by simp [results,Tryz.results14,go_sem,hc]) rfl ⟨_,rfl,World.ownsRow_nil _ _ _ _,?_⟩;exact ((((Below.refl _ w).alloc nR _).trans (hb1.mono (by simp))).setCell (p:=⟨w.heap.size,0,none⟩) nR _).setCell (p:=⟨w.heap.size,1,none⟩) nR _
 ·have hml:s.size≤maxLen:=by unfold maxLen;omega
  obtain ⟨R,hR⟩:=nm (Tk.scan s.data.toList);have HS:Hid (R=Tk.comb [] (Tk.scanB s.data.toList.length (s.data.toList.drop 0) 0)):=by
   show _=_
   rw [hR,List.drop_zero,Tk.scan_start _ (by omega)];unfold Tk.scanB;rw [Nat.zero_add]
  rw [←hR];clear hR hsz;obtain ⟨i0,hi,hz0,hz1,hz2⟩:=info_parts Tryz.info71;have hd12:decide ((12000:Int)<(s.size:Int))=false:=(by simp;omega);go_enter Tryz.func14,Tryz.ntmps14;go_wp2
  go_loopw [4,5] (fun v i wr=>∃ (acc:List Tk.Tok) (p f:Nat),p≤s.size∧i=.int .i64 p∧acc.length≤p∧wr.ownsRow (w.heap.size+1) 71 4 v acc.length (toksCells acc)∧s.size-p≤f ∧
    Hid (R=Tk.comb acc (Tk.scanB f (s.data.toList.drop p) p))∧Below (w.heap.size+1) (w.alloc (.cells #[.int .i64 0,.int .i64 0] 27)) wr)
   (fun _ i _=>s.size-(intOf i).toNat)
  case atStart=>exact ⟨[],0,s.data.toList.length,Nat.zero_le _,rfl,Nat.zero_le _,World.ownsRow_nil _ _ _ _,by rw [←Lib.size_eq];omega,HS,Below.refl _ _⟩
  case round=>
   obtain ⟨acc,p,f,hp,rfl,hacc,hown,hf,H,hbr⟩:=hrel;obtain ⟨r0,r1,q0,q1,hzw⟩:=jE hbr;clear HS;by_cases hlt:p<s.size
   ·obtain ⟨f,rfl⟩:∃ f',f=f'+1:=⟨f-1,by omega⟩
    have HD:Hid (s.data.toList.drop p=s[p] :: s.data.toList.drop (p+1)):=List.drop_eq_getElem_cons (by simpa using hlt)
    cases hB:Tk.isB ((s[p]).toNat:Int)
    ·by_cases h35:((s[p]).toNat:Int)=35
     ·
      as_aux_lemma=>
       have HM:Hid (R=Tk.comb acc (Tk.scanM (f+1) (s.data.toList.drop p) p)):=by
        show _=_
        rw [H.out,HD.out,Tk.scanM_hash _ _ _ _ h35]
       clear H hB;go_wp2
       go_loop [5] (fun a=>∃ q:Nat,a=.int .i64 q∧p≤q∧q≤s.size∧Hid (R=Tk.comb acc (Tk.scanM (f+1) (s.data.toList.drop q) q))) (fun a=>s.size-(intOf a).toNat)
       case atStart=>exact ⟨p,rfl,Nat.le_refl _,hp,HM⟩
       case round=>
        obtain ⟨q,rfl,hpq,hq,HQ⟩:=hrel;by_cases hql:q<s.size
        ·have HDQ:Hid (s.data.toList.drop q=s[q] :: s.data.toList.drop (q+1)):=List.drop_eq_getElem_cons (by simpa using hql)
         by_cases h10:((s[q]).toNat:Int)=10
         ·have hne:p≠q:=by
           intro e;subst e;omega
          have HF:Hid (R=Tk.comb acc (Tk.scanB (f+1) (s.data.toList.drop q) q)):=by
           show _=_
           rw [HQ.out,HDQ.out,Tk.scanM_nl _ _ _ _ h10]
          have t10:(((s[q]).toNat:Int) != 10)=false:=(by simp [h10]);clear h10 HQ HDQ HM HD;go_wp2
          go_roundw
          case rel=>exact ⟨acc,q,f+1,by omega,rfl,by omega,hown,by omega,HF,hbr⟩
          case measure=>simp [intOf];omega
         ·have HF:Hid (R=Tk.comb acc (Tk.scanM (f+1) (s.data.toList.drop (q+1)) (q+1))):=by
           show _=_
           rw [HQ.out,HDQ.out,Tk.scanM_step _ _ _ _ h10]
          have t10:(((s[q]).toNat:Int) != 10)=true:=(by simp [h10]);clear h10 HQ HDQ HM HD;go_wp2
          go_round
          case rel=>exact ⟨q+1,by go_num,by omega,by omega,HF⟩
          case measure=>simp [intOf];omega
        ·have hqe:q=s.size:=by omega
         subst hqe;have HF:Hid (R=Tk.comb acc (Tk.scanB (f+1) (s.data.toList.drop s.size) s.size)):=by
          show _=_
          rw [HQ.out,List.drop_of_length_le (by rw [←Lib.size_eq];exact Nat.le_refl _),Tk.scanM_nil]
         clear HQ HM HD;go_wp2
         go_roundw
         case rel=>exact ⟨acc,s.size,f+1,Nat.le_refl _,rfl,by omega,hown,by omega,HF,hbr⟩
         case measure=>simp [intOf];omega
     ·have hbl:=Tk.blank_none s[p] (s.data.toList.drop (p+1)) hB h35
      have hne:s[p] :: s.data.toList.drop (p+1)≠[]:=(by simp);have htok:=Tk.scanB_tok f _ p hne hbl;have hbad:=Tk.scanB_bad f _ p hne hbl;have b32:(((s[p]).toNat:Int)==32)=false:=(by rw [beq_eq_false_iff_ne];intro e;rw [e] at hB;simp [Tk.isB] at hB);have b9:(((s[p]).toNat:Int)==9)=false:=(by rw [beq_eq_false_iff_ne];intro e;rw [e] at hB;simp [Tk.isB] at hB);have b10:(((s[p]).toNat:Int)==10)=false:=(by rw [beq_eq_false_iff_ne];intro e;rw [e] at hB;simp [Tk.isB] at hB);have b13:(((s[p]).toNat:Int)==13)=false:=(by rw [beq_eq_false_iff_ne];intro e;rw [e] at hB;simp [Tk.isB] at hB);have b35:(((s[p]).toNat:Int)==35)=false:=(by simpa using h35);clear hB h35 hbl hne
      cases hL:Tk.isL ((s[p]).toNat:Int)
      ·cases hD:Tk.isD ((s[p]).toNat:Int)
       ·
        have hrd:=Tk.read_sign s[p] (s.data.toList.drop (p+1)) hL hD;rw [hrd] at htok hbad;by_cases h2:Tk.signLen (s[p] :: s.data.toList.drop (p+1))=2
        ·obtain ⟨hp1,hT⟩:=two_yes s p hlt h2
         have hg:Tk.readSign (s[p] :: s.data.toList.drop (p+1))=⟨4,(s.data.toList.drop p).take 2,0,0⟩:=by
          unfold Tk.readSign;rw [h2,HD.out];rfl
         obtain ⟨t,ht⟩:=nm ((s.data.toList.drop p).take 2);have htl:t.length=2:=(by rw [ht,List.length_take,List.length_drop,←Lib.size_eq];omega);have HSTR:=zD (zCB s t p 2 ht);rw [hg,←ht,←HD.out] at htok;have HR:Hid (R=Tk.comb (acc++[⟨4,p,t,0⟩]) (Tk.scanB f (s.data.toList.drop (p+2)) (p+2))):=by
          show _=_
          rw [H.out,htok rfl acc,List.drop_drop,htl]
         clear htok hbad hrd h2 hg ht H HD htl
         as_aux_lemma=>
          rcases hT with hT1 | ⟨hT1,hT2⟩
          all_goals
           go_wp2_with (first
            | (go_at_call 38;refine (qD _ _).mono ?_;rintro e w' ⟨rfl,rfl⟩)
            | (go_at_call 41;refine (qA _ _).mono ?_;rintro e w' ⟨rfl,rfl⟩)
            | (at_builtin;refine wpList_append_own _ rfl _ _ 46 rfl (w.heap.size+1) 71 i0 (.agg #[.int .i64 0,.int .i64 0,.string ⟨#[]⟩,.int .i64 0]) 4 40 Tryz.underlying46 hi hz0 hz1 hz2 rfl (by decide) _ _ _ rfl (World.ownsRow.alloc (by assumption) _) ⟨_,0,none⟩ 1 1 [.int .i64 4,.int .i64 (p:Int),.string (s.extract p (p+2)),.int .i64 0] rfl rfl (new4 _ _ _ _ _) (by intro u hu;simp at hu;rcases hu with rfl | rfl | rfl | rfl<;>rfl) (by unfold maxLen;omega) (by omega) (by simp;omega) ?_;intro v2 w2 hown2 hgrow _))
           obtain ⟨hown3,hbw2⟩:=zBG HSTR.out (by assumption) (by assumption) (by assumption) hown2 hgrow;clear hown2 hgrow;go_wp2
           go_roundw
           case rel=>exact ⟨acc++[⟨4,p,t,0⟩],p+2,f,by omega,by go_num,by simp;omega,hown3,by omega,HR,hbw2⟩
           case measure=>simp [intOf];omega
        ·have h1:=Tk.signLen_one _ _ h2
         have hT:=two_no s p hlt h2
         cases hS:Tk.isS s[p]
         ·rw [hS] at h1
          have hg:Tk.readSign (s[p] :: s.data.toList.drop (p+1))=Tk.bad 1:=by
           unfold Tk.readSign;rw [h1];rfl
          rw [hg,←HD.out] at hbad;have hR:R=([],1,(p:Int)):=(by rw [H.out];exact hbad (by simp [Tk.bad]) acc);subst hR;clear htok hbad hrd h1 h2 hg H
          as_aux_lemma=>
           have key:(p+1<s.size∧((s.extract p (p+2)).toList==[61,61])=false∧((s.extract p (p+2)).toList==[45,62])=false)∨decide ((p:Int)+1<(s.size:Int))=false:=by
            by_cases hp1:p+1<s.size
            ·exact .inl ⟨hp1,hT hp1⟩
            ·exact .inr (by simp;omega)
           clear hT;rcases key with ⟨hp1,hT1,hT2⟩ | hd1
           all_goals
            go_upto_region 32 with (first
             | (go_at_call 38;refine (qD _ _).mono ?_;rintro e w' ⟨rfl,rfl⟩)
             | (go_at_call 41;refine (qA _ _).mono ?_;rintro e w' ⟨rfl,rfl⟩))
            refine wp_region_lit ?_;refine name_act (p:=fun a=>wpList Tryz.prog _ _ _ a _) ?_;intro a0 ha0;have hs6:a0.tmps[6]?=some (.int .u8 ((s[p]).toNat:Int)):=(by rw [ha0];rfl);have hsz0:214<a0.tmps.size:=(by rw [ha0];simp only [List.size_toArray,List.length_cons,List.length_nil];omega);have HA0:=zD ha0;clear ha0;refine zCv 144 214 6 145 146 147 40 hs6 (by decide) hsz0 rfl rfl rfl rfl rfl rfl rfl rfl rfl (by decide) (by decide) (by decide) ?_;intro a1 k1;refine qY 144 214 6 2 147 148 149 150 151 41 hs6 (by decide) hsz0 rfl rfl rfl (Or.inl rfl) rfl rfl rfl rfl rfl rfl rfl rfl rfl (by decide) (by decide) (by decide) (by decide) k1 ?_;intro a2 k2;clear k1;refine qY 144 214 6 6 151 152 153 154 155 123 hs6 (by decide) hsz0 rfl rfl rfl (Or.inl rfl) rfl rfl rfl rfl rfl rfl rfl rfl rfl (by decide) (by decide) (by decide) (by decide) k2 ?_;intro a3 k3;clear k2;refine qY 144 214 6 10 155 156 157 158 159 125 hs6 (by decide) hsz0 rfl rfl rfl (Or.inl rfl) rfl rfl rfl rfl rfl rfl rfl rfl rfl (by decide) (by decide) (by decide) (by decide) k3 ?_;intro a4 k4;clear k3;refine qY 144 214 6 14 159 160 161 162 163 91 hs6 (by decide) hsz0 rfl rfl rfl (Or.inl rfl) rfl rfl rfl rfl rfl rfl rfl rfl rfl (by decide) (by decide) (by decide) (by decide) k4 ?_;intro a5 k5;clear k4;refine qY 144 214 6 18 163 164 165 166 167 93 hs6 (by decide) hsz0 rfl rfl rfl (Or.inl rfl) rfl rfl rfl rfl rfl rfl rfl rfl rfl (by decide) (by decide) (by decide) (by decide) k5 ?_;intro a6 k6;clear k5;refine qY 144 214 6 22 167 168 169 170 171 60 hs6 (by decide) hsz0 rfl rfl rfl (Or.inl rfl) rfl rfl rfl rfl rfl rfl rfl rfl rfl (by decide) (by decide) (by decide) (by decide) k6 ?_;intro a7 k7;clear k6;refine qY 144 214 6 26 171 172 173 174 175 62 hs6 (by decide) hsz0 rfl rfl rfl (Or.inl rfl) rfl rfl rfl rfl rfl rfl rfl rfl rfl (by decide) (by decide) (by decide) (by decide) k7 ?_;intro a8 k8;clear k7;refine qY 144 214 6 30 175 176 177 178 179 44 hs6 (by decide) hsz0 rfl rfl rfl (Or.inl rfl) rfl rfl rfl rfl rfl rfl rfl rfl rfl (by decide) (by decide) (by decide) (by decide) k8 ?_;intro a9 k9;clear k8;refine qY 144 214 6 34 179 180 181 182 183 59 hs6 (by decide) hsz0 rfl rfl rfl (Or.inl rfl) rfl rfl rfl rfl rfl rfl rfl rfl rfl (by decide) (by decide) (by decide) (by decide) k9 ?_;intro a10 k10;clear k9;refine qY 144 214 6 38 183 184 185 186 187 58 hs6 (by decide) hsz0 rfl rfl rfl (Or.inl rfl) rfl rfl rfl rfl rfl rfl rfl rfl rfl (by decide) (by decide) (by decide) (by decide) k10 ?_;intro a11 k11;clear k10;refine qY 144 214 6 42 187 188 189 190 191 43 hs6 (by decide) hsz0 rfl rfl rfl (Or.inl rfl) rfl rfl rfl rfl rfl rfl rfl rfl rfl (by decide) (by decide) (by decide) (by decide) k11 ?_;intro a12 k12;clear k11;refine qY 144 214 6 46 191 192 193 194 195 45 hs6 (by decide) hsz0 rfl rfl rfl (Or.inl rfl) rfl rfl rfl rfl rfl rfl rfl rfl rfl (by decide) (by decide) (by decide) (by decide) k12 ?_;intro a13 k13;clear k12;refine qY 144 214 6 50 195 196 197 198 199 42 hs6 (by decide) hsz0 rfl rfl rfl (Or.inl rfl) rfl rfl rfl rfl rfl rfl rfl rfl rfl (by decide) (by decide) (by decide) (by decide) k13 ?_;intro a14 k14;clear k13;refine qY 144 214 6 54 199 200 201 202 203 47 hs6 (by decide) hsz0 rfl rfl rfl (Or.inl rfl) rfl rfl rfl rfl rfl rfl rfl rfl rfl (by decide) (by decide) (by decide) (by decide) k14 ?_;intro a15 k15;clear k14;refine qY 144 214 6 58 203 204 205 206 207 37 hs6 (by decide) hsz0 rfl rfl rfl (Or.inl rfl) rfl rfl rfl rfl rfl rfl rfl rfl rfl (by decide) (by decide) (by decide) (by decide) k15 ?_;intro a16 k16;clear k15;refine qY 144 214 6 62 207 208 209 210 211 61 hs6 (by decide) hsz0 rfl rfl rfl (Or.inl rfl) rfl rfl rfl rfl rfl rfl rfl rfl rfl (by decide) (by decide) (by decide) (by decide) k16 ?_;intro a17 k17;clear k16;refine qY 144 214 6 66 211 212 213 214 144 94 hs6 (by decide) hsz0 rfl rfl rfl (Or.inr rfl) rfl rfl rfl rfl rfl rfl rfl rfl rfl (by decide) (by decide) (by decide) (by decide) k17 ?_;intro a18 k18;clear k17;rw [signs_or,hS] at k18;obtain ⟨ys,hys,e18⟩:=zCw k18 (by decide) hsz0;obtain ⟨y1,y2,y3,y4,y5,y6,y7,y8,y9,y10,y11,y12,y13,y14,y15,y16,y17,y18,y19,y20,y21,y22,y23,y24,y25,y26,y27,y28,y29,y30,y31,y32,y33,y34,y35,y36,y37,y38,y39,y40,y41,y42,y43,y44,y45,y46,y47,y48,y49,y50,y51,y52,y53,y54,y55,y56,y57,y58,y59,y60,y61,y62,y63,y64,y65,y66,y67,y68,y69,y70,eys⟩:=split70 ys hys;rw [eys,xR HA0] at e18;subst e18;clear k18 hys eys hs6 hsz0 HA0;refine wpList_nil ?_;simp only [List.take_succ_cons,List.take_zero,List.drop_succ_cons,List.drop_zero,List.cons_append,List.nil_append];go_wp2_with fail;refine (vV _ _ _).mono ?_;rintro e w2 ⟨rfl,hb2⟩;have hbx:=hbr.trans (hb2.mono hzw);clear r0 r1 q0 q1;obtain ⟨r0,r1,q0,q1,hzx⟩:=jE hbx;clear hbr hb2;go_wp2;refine bodyPost_ret (v:=.tuple #[.slice none 0 0,.agg #[.int .i64 1,.int .i64 (p:Int)]]) (by simp [results,Tryz.results14,go_sem,r0,r1,hzx]) rfl ⟨_,rfl,World.ownsRow_nil _ _ _ _,?_⟩;exact ((((Below.refl _ w).alloc nR _).trans (hbx.mono (Nat.le_succ _))).setCell (p:=⟨w.heap.size,0,none⟩) nR _).setCell (p:=⟨w.heap.size,1,none⟩) nR _
         ·rw [hS] at h1
          have hg:Tk.readSign (s[p] :: s.data.toList.drop (p+1))=⟨4,(s.data.toList.drop p).take 1,0,0⟩:=by
           unfold Tk.readSign;rw [h1,HD.out];rfl
          obtain ⟨t,ht⟩:=nm ((s.data.toList.drop p).take 1);have htl:t.length=1:=(by rw [ht,List.length_take,List.length_drop,←Lib.size_eq];omega);have HSTR:=zD (zCB s t p 1 ht);rw [hg,←ht,←HD.out] at htok;have HR:Hid (R=Tk.comb (acc++[⟨4,p,t,0⟩]) (Tk.scanB f (s.data.toList.drop (p+1)) (p+1))):=by
           show _=_
           rw [H.out,htok rfl acc,List.drop_drop,htl]
          clear htok hbad hrd h1 h2 hg ht H HD htl
          as_aux_lemma=>
           have key:(p+1<s.size∧((s.extract p (p+2)).toList==[61,61])=false∧((s.extract p (p+2)).toList==[45,62])=false)∨decide ((p:Int)+1<(s.size:Int))=false:=by
            by_cases hp1:p+1<s.size
            ·exact .inl ⟨hp1,hT hp1⟩
            ·exact .inr (by simp;omega)
           clear hT;rcases key with ⟨hp1,hT1,hT2⟩ | hd1
           all_goals
            go_upto_region 32 with (first
             | (go_at_call 38;refine (qD _ _).mono ?_;rintro e w' ⟨rfl,rfl⟩)
             | (go_at_call 41;refine (qA _ _).mono ?_;rintro e w' ⟨rfl,rfl⟩))
            refine wp_region_lit ?_;refine name_act (p:=fun a=>wpList Tryz.prog _ _ _ a _) ?_;intro a0 ha0;have hs6:a0.tmps[6]?=some (.int .u8 ((s[p]).toNat:Int)):=(by rw [ha0];rfl);have hsz0:214<a0.tmps.size:=(by rw [ha0];simp only [List.size_toArray,List.length_cons,List.length_nil];omega);have HA0:=zD ha0;clear ha0;refine zCv 144 214 6 145 146 147 40 hs6 (by decide) hsz0 rfl rfl rfl rfl rfl rfl rfl rfl rfl (by decide) (by decide) (by decide) ?_;intro a1 k1;refine qY 144 214 6 2 147 148 149 150 151 41 hs6 (by decide) hsz0 rfl rfl rfl (Or.inl rfl) rfl rfl rfl rfl rfl rfl rfl rfl rfl (by decide) (by decide) (by decide) (by decide) k1 ?_;intro a2 k2;clear k1;refine qY 144 214 6 6 151 152 153 154 155 123 hs6 (by decide) hsz0 rfl rfl rfl (Or.inl rfl) rfl rfl rfl rfl rfl rfl rfl rfl rfl (by decide) (by decide) (by decide) (by decide) k2 ?_;intro a3 k3;clear k2;refine qY 144 214 6 10 155 156 157 158 159 125 hs6 (by decide) hsz0 rfl rfl rfl (Or.inl rfl) rfl rfl rfl rfl rfl rfl rfl rfl rfl (by decide) (by decide) (by decide) (by decide) k3 ?_;intro a4 k4;clear k3;refine qY 144 214 6 14 159 160 161 162 163 91 hs6 (by decide) hsz0 rfl rfl rfl (Or.inl rfl) rfl rfl rfl rfl rfl rfl rfl rfl rfl (by decide) (by decide) (by decide) (by decide) k4 ?_;intro a5 k5;clear k4;refine qY 144 214 6 18 163 164 165 166 167 93 hs6 (by decide) hsz0 rfl rfl rfl (Or.inl rfl) rfl rfl rfl rfl rfl rfl rfl rfl rfl (by decide) (by decide) (by decide) (by decide) k5 ?_;intro a6 k6;clear k5;refine qY 144 214 6 22 167 168 169 170 171 60 hs6 (by decide) hsz0 rfl rfl rfl (Or.inl rfl) rfl rfl rfl rfl rfl rfl rfl rfl rfl (by decide) (by decide) (by decide) (by decide) k6 ?_;intro a7 k7;clear k6;refine qY 144 214 6 26 171 172 173 174 175 62 hs6 (by decide) hsz0 rfl rfl rfl (Or.inl rfl) rfl rfl rfl rfl rfl rfl rfl rfl rfl (by decide) (by decide) (by decide) (by decide) k7 ?_;intro a8 k8;clear k7;refine qY 144 214 6 30 175 176 177 178 179 44 hs6 (by decide) hsz0 rfl rfl rfl (Or.inl rfl) rfl rfl rfl rfl rfl rfl rfl rfl rfl (by decide) (by decide) (by decide) (by decide) k8 ?_;intro a9 k9;clear k8;refine qY 144 214 6 34 179 180 181 182 183 59 hs6 (by decide) hsz0 rfl rfl rfl (Or.inl rfl) rfl rfl rfl rfl rfl rfl rfl rfl rfl (by decide) (by decide) (by decide) (by decide) k9 ?_;intro a10 k10;clear k9;refine qY 144 214 6 38 183 184 185 186 187 58 hs6 (by decide) hsz0 rfl rfl rfl (Or.inl rfl) rfl rfl rfl rfl rfl rfl rfl rfl rfl (by decide) (by decide) (by decide) (by decide) k10 ?_;intro a11 k11;clear k10;refine qY 144 214 6 42 187 188 189 190 191 43 hs6 (by decide) hsz0 rfl rfl rfl (Or.inl rfl) rfl rfl rfl rfl rfl rfl rfl rfl rfl (by decide) (by decide) (by decide) (by decide) k11 ?_;intro a12 k12;clear k11;refine qY 144 214 6 46 191 192 193 194 195 45 hs6 (by decide) hsz0 rfl rfl rfl (Or.inl rfl) rfl rfl rfl rfl rfl rfl rfl rfl rfl (by decide) (by decide) (by decide) (by decide) k12 ?_;intro a13 k13;clear k12;refine qY 144 214 6 50 195 196 197 198 199 42 hs6 (by decide) hsz0 rfl rfl rfl (Or.inl rfl) rfl rfl rfl rfl rfl rfl rfl rfl rfl (by decide) (by decide) (by decide) (by decide) k13 ?_;intro a14 k14;clear k13;refine qY 144 214 6 54 199 200 201 202 203 47 hs6 (by decide) hsz0 rfl rfl rfl (Or.inl rfl) rfl rfl rfl rfl rfl rfl rfl rfl rfl (by decide) (by decide) (by decide) (by decide) k14 ?_;intro a15 k15;clear k14;refine qY 144 214 6 58 203 204 205 206 207 37 hs6 (by decide) hsz0 rfl rfl rfl (Or.inl rfl) rfl rfl rfl rfl rfl rfl rfl rfl rfl (by decide) (by decide) (by decide) (by decide) k15 ?_;intro a16 k16;clear k15;refine qY 144 214 6 62 207 208 209 210 211 61 hs6 (by decide) hsz0 rfl rfl rfl (Or.inl rfl) rfl rfl rfl rfl rfl rfl rfl rfl rfl (by decide) (by decide) (by decide) (by decide) k16 ?_;intro a17 k17;clear k16;refine qY 144 214 6 66 211 212 213 214 144 94 hs6 (by decide) hsz0 rfl rfl rfl (Or.inr rfl) rfl rfl rfl rfl rfl rfl rfl rfl rfl (by decide) (by decide) (by decide) (by decide) k17 ?_;intro a18 k18;clear k17;rw [signs_or,hS] at k18;obtain ⟨ys,hys,e18⟩:=zCw k18 (by decide) hsz0;obtain ⟨y1,y2,y3,y4,y5,y6,y7,y8,y9,y10,y11,y12,y13,y14,y15,y16,y17,y18,y19,y20,y21,y22,y23,y24,y25,y26,y27,y28,y29,y30,y31,y32,y33,y34,y35,y36,y37,y38,y39,y40,y41,y42,y43,y44,y45,y46,y47,y48,y49,y50,y51,y52,y53,y54,y55,y56,y57,y58,y59,y60,y61,y62,y63,y64,y65,y66,y67,y68,y69,y70,eys⟩:=split70 ys hys;rw [eys,xR HA0] at e18;subst e18;clear k18 hys eys hs6 hsz0 HA0;refine wpList_nil ?_;simp only [List.take_succ_cons,List.take_zero,List.drop_succ_cons,List.drop_zero,List.cons_append,List.nil_append]
            go_wp2_with (at_builtin;refine wpList_append_own _ rfl _ _ 46 rfl (w.heap.size+1) 71 i0 (.agg #[.int .i64 0,.int .i64 0,.string ⟨#[]⟩,.int .i64 0]) 4 40 Tryz.underlying46 hi hz0 hz1 hz2 rfl (by decide) _ _ _ rfl (World.ownsRow.alloc (by assumption) _) ⟨_,0,none⟩ 1 1 [.int .i64 4,.int .i64 (p:Int),.string (s.extract p (p+1)),.int .i64 0] rfl rfl (new4 _ _ _ _ _) (by intro u hu;simp at hu;rcases hu with rfl | rfl | rfl | rfl<;>rfl) (by unfold maxLen;omega) (by omega) (by simp;omega) ?_;intro v2 w2 hown2 hgrow _)
            obtain ⟨hown3,hbw2⟩:=zBG HSTR.out (by assumption) (by assumption) (by assumption) hown2 hgrow;clear hown2 hgrow;go_wp2
            go_roundw
            case rel=>exact ⟨acc++[⟨4,p,t,0⟩],p+1,f,by omega,by go_num,by simp;omega,hown3,by omega,HR,hbw2⟩
            case measure=>simp [intOf];omega
       ·
        have hrd:=Tk.read_num s[p] (s.data.toList.drop (p+1)) hD;rw [hrd,←HD.out] at htok hbad;obtain ⟨rl,hrl⟩:=nm (Tk.runLen (s.data.toList.drop p));rw [←hrl] at htok hbad;have hrl0:0<rl:=(by rw [hrl,HD.out];exact Tk.run_pos _ _ (by simp [Tk.isR,hD]));have hrl1:rl≤s.size-p:=(by have:=Tk.runLen_le (s.data.toList.drop p);rw [List.length_drop,←Lib.size_eq] at this;omega);have HRL:=zD hrl;obtain ⟨t,ht⟩:=nm ((s.data.toList.drop p).take rl);have htl:t.length=rl:=(by rw [ht,List.length_take,List.length_drop,←Lib.size_eq];omega);have hstr:=zCB s t p rl ht;have het:(s.extract p (p+rl)).data.toList=t:=(by rw [qR,Nat.add_sub_cancel_left,ht]);rw [←ht] at htok hbad;have HET:=zD het;have HSTR:=zD hstr;clear hrl hrd ht het hstr;obtain ⟨nv,hnv⟩:=nm (numR t);have HNV:=zD hnv;by_cases hn:nv<0
        ·have hg:Tk.readNum t=Tk.bad 2:=readNum_neg t (by rw [←hnv];exact hn)
         rw [hg] at hbad;have hR:R=([],2,(p:Int)):=(by rw [H.out];exact hbad (by simp [Tk.bad]) acc);subst hR;clear htok hbad hg H htl hnv
         as_aux_lemma=>
          go_wp2_with (first
           | (go_at_call 38;refine (qD _ _).mono ?_;rintro e w' ⟨rfl,rfl⟩)
           | (go_at_call 41;refine (qA _ _).mono ?_;rintro e w' ⟨rfl,rfl⟩))
          refine (zAx _ _ _ hml hp).mono ?_;rintro e w' ⟨he,rfl⟩;rw [←xR HRL] at he;subst he;go_wp2_with fail;refine (num_any _ _ (by rw [ByteArray.size_extract];unfold maxLen;omega)).mono ?_;rintro e w' ⟨he,rfl⟩;rw [xR HET,←xR HNV] at he;subst he;go_wp2_with fail;refine (vV _ _ _).mono ?_;rintro e w2 ⟨rfl,hb2⟩;have hbx:=hbr.trans (hb2.mono hzw);clear r0 r1 q0 q1;obtain ⟨r0,r1,q0,q1,hzx⟩:=jE hbx;clear hbr hb2;go_wp2;refine bodyPost_ret (v:=.tuple #[.slice none 0 0,.agg #[.int .i64 2,.int .i64 (p:Int)]]) (by simp [results,Tryz.results14,go_sem,r0,r1,hzx]) rfl ⟨_,rfl,World.ownsRow_nil _ _ _ _,?_⟩;exact ((((Below.refl _ w).alloc nR _).trans (hbx.mono (Nat.le_succ _))).setCell (p:=⟨w.heap.size,0,none⟩) nR _).setCell (p:=⟨w.heap.size,1,none⟩) nR _
        ·have hg:Tk.readNum t=⟨3,t,nv,0⟩:=by rw [hnv];exact readNum_pos t (by rw [←hnv];exact hn)
         rw [hg] at htok;have HR:Hid (R=Tk.comb (acc++[⟨3,p,t,nv⟩]) (Tk.scanB f (s.data.toList.drop (p+rl)) (p+rl))):=by
          show _=_
          rw [H.out,htok rfl acc,List.drop_drop,htl]
         clear htok hbad hg H htl hnv
         as_aux_lemma=>
          go_wp2_with (first
           | (go_at_call 38;refine (qD _ _).mono ?_;rintro e w' ⟨rfl,rfl⟩)
           | (go_at_call 41;refine (qA _ _).mono ?_;rintro e w' ⟨rfl,rfl⟩))
          refine (zAx _ _ _ hml hp).mono ?_;rintro e w' ⟨he,rfl⟩;rw [←xR HRL] at he;subst he;go_wp2_with fail;refine (num_any _ _ (by rw [ByteArray.size_extract];unfold maxLen;omega)).mono ?_;rintro e w1 ⟨he,rfl⟩;rw [xR HET,←xR HNV] at he;subst he;clear r0 r1 q0 q1
          go_wp2_with (at_builtin;refine wpList_append_own _ rfl _ _ 46 rfl (w.heap.size+1) 71 i0 (.agg #[.int .i64 0,.int .i64 0,.string ⟨#[]⟩,.int .i64 0]) 4 40 Tryz.underlying46 hi hz0 hz1 hz2 rfl (by decide) _ _ _ rfl (hown.alloc _) ⟨w1.heap.size,0,none⟩ 1 1 [.int .i64 3,.int .i64 (p:Int),.string (s.extract p (p+rl)),.int .i64 nv] rfl rfl (new4 _ _ _ _ _) (by intro u hu;simp at hu;rcases hu with rfl | rfl | rfl | rfl<;>rfl) (by unfold maxLen;omega) (by omega) (by simp;omega) ?_)
          intro v2 w2 hown2 hgrow _;obtain ⟨hown3,hbw2⟩:=zBG HSTR.out hown hbr hzw hown2 hgrow;clear hown2 hgrow hown hbr;go_wp2
          go_roundw
          case rel=>exact ⟨acc++[⟨3,p,t,nv⟩],p+rl,f,by omega,by go_num,by simp;omega,hown3,by omega,HR,hbw2⟩
          case measure=>simp [intOf];omega
      ·
       have hrd:=Tk.read_name s[p] (s.data.toList.drop (p+1)) hL;rw [hrd,←HD.out] at htok hbad;obtain ⟨rl,hrl⟩:=nm (Tk.runLen (s.data.toList.drop p));rw [←hrl] at htok hbad;have hrl0:0<rl:=(by rw [hrl,HD.out];exact Tk.run_pos _ _ (by simp [Tk.isR,hL]));have hrl1:rl≤s.size-p:=(by have:=Tk.runLen_le (s.data.toList.drop p);rw [List.length_drop,←Lib.size_eq] at this;omega);have HRL:=zD hrl;obtain ⟨t,ht⟩:=nm ((s.data.toList.drop p).take rl);have htl:t.length=rl:=(by rw [ht,List.length_take,List.length_drop,←Lib.size_eq];omega);have hstr:=zCB s t p rl ht;have het:(s.extract p (p+rl)).data.toList=t:=(by rw [qR,Nat.add_sub_cancel_left,ht]);rw [←ht] at htok hbad;have HET:=zD het;have HSTR:=zD hstr;clear hrl hrd ht het hstr
       cases hW:Tk.isWord t
       ·by_cases h12:12<rl
        ·have hg:Tk.readName t=Tk.bad 3:=by simp [Tk.readName,hW,htl,h12]
         rw [hg] at hbad;have hR:R=([],3,(p:Int)):=(by rw [H.out];exact hbad (by simp [Tk.bad]) acc);subst hR;clear htok hbad hg H htl
         as_aux_lemma=>
          go_wp2_with (go_at_call 38;refine (qD _ _).mono ?_;rintro e w' ⟨rfl,rfl⟩)
          refine (zAx _ _ _ hml hp).mono ?_;rintro e w' ⟨he,rfl⟩;rw [←xR HRL] at he;subst he;go_wp2_with fail;refine (zBh _ _).mono ?_;rintro e w1 ⟨he,hb1⟩;rw [xR HET,hW] at he;subst he;have hbw:=hbr.trans (hb1.mono hzw);have hzw1:w.heap.size<w1.heap.size:=(by have:=hb1.size;omega);clear r0 r1 q0 q1 hown hbr hb1;go_wp2_with fail;refine (vV _ _ _).mono ?_;rintro e w2 ⟨rfl,hb2⟩;have hbx:=hbw.trans (hb2.mono hzw1);obtain ⟨r0,r1,q0,q1,hzx⟩:=jE hbx;clear hbw hb2;go_wp2;refine bodyPost_ret (v:=.tuple #[.slice none 0 0,.agg #[.int .i64 3,.int .i64 (p:Int)]]) (by simp [results,Tryz.results14,go_sem,r0,r1,hzx]) rfl ⟨_,rfl,World.ownsRow_nil _ _ _ _,?_⟩;exact ((((Below.refl _ w).alloc nR _).trans (hbx.mono (Nat.le_succ _))).setCell (p:=⟨w.heap.size,0,none⟩) nR _).setCell (p:=⟨w.heap.size,1,none⟩) nR _
        ·have hg:Tk.readName t=⟨2,t,0,0⟩:=by simp [Tk.readName,hW,htl,h12]
         rw [hg] at htok;have HR:Hid (R=Tk.comb (acc++[⟨2,p,t,0⟩]) (Tk.scanB f (s.data.toList.drop (p+rl)) (p+rl))):=by
          show _=_
          rw [H.out,htok rfl acc,List.drop_drop,htl]
         clear htok hbad hg H htl
         as_aux_lemma=>
          go_wp2_with (go_at_call 38;refine (qD _ _).mono ?_;rintro e w' ⟨rfl,rfl⟩)
          refine (zAx _ _ _ hml hp).mono ?_;rintro e w' ⟨he,rfl⟩;rw [←xR HRL] at he;subst he;go_wp2_with fail;refine (zBh _ _).mono ?_;rintro e w1 ⟨he,hb1⟩;rw [xR HET,hW] at he;subst he;have hbw:=hbr.trans (hb1.mono hzw);have hown1:=zAU hown hb1;have hzw1:w.heap.size<w1.heap.size:=(by have:=hb1.size;omega);clear r0 r1 q0 q1 hown hbr hb1
          go_wp2_with (at_builtin;refine wpList_append_own _ rfl _ _ 46 rfl (w.heap.size+1) 71 i0 (.agg #[.int .i64 0,.int .i64 0,.string ⟨#[]⟩,.int .i64 0]) 4 40 Tryz.underlying46 hi hz0 hz1 hz2 rfl (by decide) _ _ _ rfl (hown1.alloc _) ⟨w1.heap.size,0,none⟩ 1 1 [.int .i64 2,.int .i64 (p:Int),.string (s.extract p (p+rl)),.int .i64 0] rfl rfl (new4 _ _ _ _ _) (by intro u hu;simp at hu;rcases hu with rfl | rfl | rfl | rfl<;>rfl) (by unfold maxLen;omega) (by omega) (by simp;omega) ?_)
          intro v2 w2 hown2 hgrow _;obtain ⟨hown3,hbw2⟩:=zBG HSTR.out hown1 hbw hzw1 hown2 hgrow;clear hown2 hgrow hown1 hbw;go_wp2
          go_roundw
          case rel=>exact ⟨acc++[⟨2,p,t,0⟩],p+rl,f,by omega,by go_num,by simp;omega,hown3,by omega,HR,hbw2⟩
          case measure=>simp [intOf];omega
       ·have hg:Tk.readName t=⟨1,t,0,0⟩:=by simp [Tk.readName,hW]
        rw [hg] at htok;have HR:Hid (R=Tk.comb (acc++[⟨1,p,t,0⟩]) (Tk.scanB f (s.data.toList.drop (p+rl)) (p+rl))):=by
         show _=_
         rw [H.out,htok rfl acc,List.drop_drop,htl]
        clear htok hbad hg H htl
        as_aux_lemma=>
         go_wp2_with (go_at_call 38;refine (qD _ _).mono ?_;rintro e w' ⟨rfl,rfl⟩)
         refine (zAx _ _ _ hml hp).mono ?_;rintro e w' ⟨he,rfl⟩;rw [←xR HRL] at he;subst he;go_wp2_with fail;refine (zBh _ _).mono ?_;rintro e w1 ⟨he,hb1⟩;rw [xR HET,hW] at he;subst he;have hbw:=hbr.trans (hb1.mono hzw);have hown1:=zAU hown hb1;have hzw1:w.heap.size<w1.heap.size:=(by have:=hb1.size;omega);clear r0 r1 q0 q1 hown hbr hb1
         go_wp2_with (at_builtin;refine wpList_append_own _ rfl _ _ 46 rfl (w.heap.size+1) 71 i0 (.agg #[.int .i64 0,.int .i64 0,.string ⟨#[]⟩,.int .i64 0]) 4 40 Tryz.underlying46 hi hz0 hz1 hz2 rfl (by decide) _ _ _ rfl (hown1.alloc _) ⟨w1.heap.size,0,none⟩ 1 1 [.int .i64 1,.int .i64 (p:Int),.string (s.extract p (p+rl)),.int .i64 0] rfl rfl (new4 _ _ _ _ _) (by intro u hu;simp at hu;rcases hu with rfl | rfl | rfl | rfl<;>rfl) (by unfold maxLen;omega) (by omega) (by simp;omega) ?_)
         intro v2 w2 hown2 hgrow _;obtain ⟨hown3,hbw2⟩:=zBG HSTR.out hown1 hbw hzw1 hown2 hgrow;clear hown2 hgrow hown1 hbw;go_wp2
         go_roundw
         case rel=>exact ⟨acc++[⟨1,p,t,0⟩],p+rl,f,by omega,by go_num,by simp;omega,hown3,by omega,HR,hbw2⟩
         case measure=>simp [intOf];omega
    ·
     have hst:=Tk.scanB_blank (f+1) s[p] (s.data.toList.drop (p+1)) p hB;have HR:Hid (R=Tk.comb acc (Tk.scanB (f+1) (s.data.toList.drop (p+1)) (p+1))):=by
      show _=_
      rw [H.out,HD.out,hst]
     have hcase:((s[p]).toNat:Int)=32∨((s[p]).toNat:Int)=9∨((s[p]).toNat:Int)=10∨((s[p]).toNat:Int)=13:=by
      simp [Tk.isB] at hB;omega
     clear hst hB H HD
     as_aux_lemma=>
      rcases hcase with h | h | h | h
      all_goals
       go_wp2
       go_roundw
       case rel=>exact ⟨acc,p+1,f+1,by omega,by go_num,by omega,hown,by omega,HR,hbr⟩
       case measure=>simp [intOf];omega
   ·have hpe:p=s.size:=by omega
    subst hpe;have hR:R=(acc,0,0):=(by rw [H.out,List.drop_of_length_le (by rw [←Lib.size_eq];exact Nat.le_refl _),Tk.scanB_end]);subst hR;clear H;go_wp2;refine bodyPost_ret (v:=.tuple #[u4,.agg #[.int .i64 0,.int .i64 0]]) (by simp [results,Tryz.results14,go_sem,r0,r1,hzw]) rfl ⟨_,rfl,?_,?_⟩
    ·exact ownsRow_setCell_below (ownsRow_setCell_below hown (by simp) _) (by simp) _
    ·exact ((((Below.refl _ w).alloc nR _).trans (hbr.mono (Nat.le_succ _))).setCell (by simp) _).setCell (by simp) _
theorem step_call {P:Program} {ops:Array Oper} {o:Oper} {a:Act} {w:World} {K:Act→World→Prop} {Q:Exit→Act→World→Prop} {E:Prop}
  (hg:o.guard=none) (f:FuncId) (s:Operand) (t:TypeId) (hop:o.op=Op.call { callee:=Callee.value (Operand.func f),args:=#[s],argTypes:=#[t] }) (v:Value) (hs:a.eval s=v)
  (hent:(callFunc f #[v]).run P w=.ok (.enter f #[v]) w) {post:Ending→World→Prop} (hc:Calls P f #[v] w post) (hK:∀ e w',post e w'→∃ u,e=.returned u∧K (a.put o.dst u) w') :
  if Region.wanted o (yielded ops a.tmps)=true then Oper.wp P o a w K Q else E:=by
 have hw:Region.wanted o (yielded ops a.tmps)=true:=(by simp [Region.wanted,hg]);rw [if_pos hw];have hrun:(execOp a.eval o).run P w=.ok (.enter f #[v]) w:=by
  have hev:a.eval (.func f)=.func (.func f) #[] #[]:=rfl;subst hs;simp [execOp,hop,resolve,invoke,hev,go_sem]
  cases s<;>simpa [go_sem] using hent
 unfold Oper.wp;rw [hrun];refine hc.mono ?_;intro e w' hp;obtain ⟨u,rfl,hk⟩:=hK e w' hp;exact hk
theorem HEx.kk {ok:Nat→Prop} {w:World} {x:ExV} {e:Ex} (h:HEx ok w x.cells e):x.k=e.k:=by
 cases h with
 | mk C hS hL hE=>rfl
theorem enter95 (args:Array Value) (w:World):(callFunc 95 args).run Tryz.prog w=.ok (.enter 95 args) w:=by kernel_rfl
theorem Tryz.info43:(Tryz.prog.info? 43).map (fun i=>(i.zero,i.size,i.bytes))=some (some (.agg #[.int .i64 0,.slice none 0 0,.string ⟨#[]⟩,.slice none 0 0,.slice none 0 0]),5,96):=by kernel_rfl
theorem new5 (w:World) (a b c d e:Value) (t:TypeId):∀ j u,[a,b,c,d,e][j]?=some u→(w.alloc (.cells #[a,b,c,d,e] t)).cell? ((⟨w.heap.size,0,none⟩:Addr).add j)=some u:=by
 intro j u hj
 match j,hj with
 | 0,hj=>simp at hj;subst hj;simp [Addr.add]
 | 1,hj=>simp at hj;subst hj;simp [Addr.add]
 | 2,hj=>simp at hj;subst hj;simp [Addr.add]
 | 3,hj=>simp at hj;subst hj;simp [Addr.add]
 | 4,hj=>simp at hj;subst hj;simp [Addr.add]
theorem line_eq {w:World} {b g cap nb:Nat} {L:List Tk.Tok} {len nx op n1:Nat} {e:Ex} {v0 v1 v2 v3 v4 v5:Value} (h:Rd w b g cap L len nx op)
    (hnode:w.heap[nb]?=some (.cells #[v0,v1,v2,v3,v4,v5,.slice none 0 0] 39 (0,0))) (hnb:nb≠b) (hng:nb≠g)
    (hvar:((peekT L len nx).text==[118,97,114])=false) (hk:(peekT L len nx).kind=2) (hn:nx+1<L.length) (hc:((peekT L len (nx+1)).text==[44])=false)
    (hq:((peekT L len (nx+1)).text==[61])=true) (hcall:((peekT L len (nx+2)).text==[99,97,108,108])=false) (hG:Gives 102 b g cap L len op (nx+2) n1 e)
    (hs:((peekT L len n1).text==[59])=true) (hn1:n1<L.length) :
    Calls Tryz.prog 84 #[.pointer (some ⟨b,0,none⟩),.pointer (some ⟨nb,0,none⟩)] w fun r w'=>∃ (q cq bk:Nat) (y:ExV),
      r=.returned (.tuple #[])∧w'.heap[nb]?=some (.cells #[v0,v1,v2,v3,v4,v5,.slice (some ⟨q,0,none⟩) 1 cq] 39 (0,0))∧1≤cq∧w.heap.size≤q∧q<w'.heap.size∧w.heap.size≤bk ∧
      w'.cell? ⟨q,4,none⟩=some (.slice (some ⟨bk,0,none⟩) 1 1) ∧
      w'.heap[bk]?=some (.cells (exC y) 45 (0,0))∧y.k=e.k∧Rd w' b g cap L len (n1+1) op∧Aside [b,nb] w.heap.size w w':=by
  have hb:=h.bb
  have hg:=h.gb
  have hnz:=zC hnode
  have hf:=tokG0
  obtain ⟨i0,hi,hz0,hz1,hz2⟩:=info_parts Tryz.info43
  go_enter Tryz.func84,Tryz.ntmps84
  go_wp2_with fail
  refine (jQ h ⟨#[118,97,114]⟩ hvar).mono ?_
  rintro r w1 ⟨rfl,b1⟩
  have h1:=h.below b1
  have z1:=b1.size
  have hN1:=(aside b1 (S:=[])).keep hnode (zC hnode) (by simp)
  go_wp2_with fail
  refine (xH h1).mono ?_
  unfold tokV
  rintro r w2 ⟨rfl,b2⟩
  have h2:=h1.below b2
  have z2:=b2.size
  have hN2:=(aside b2 (S:=[])).keep hN1 (zC hN1) (by simp)
  have A2:=(aside b1 (S:=[b,nb])).trans (aside b2) z1
  clear b1 b2 hN1 hnode
  have cn6:=co hN2 6
  simp at cn6
  go_wp2_with fail
  refine (qF _ 0 60 (by decide) _).mono ?_
  rintro r w3 ⟨rfl,rfl⟩
  go_wp2_with fail
  have hE:=fun W hW=>@equation_one W b g cap L len nx op n1 e hW hk hn hc hq hcall hG
  clear hk hc hq hcall
  go_region_law (first
    | (refine step_call rfl 95 (.tmp 40) 76 rfl _ rfl (enter95 _ _) (hE _ ?_) ?_
       exact h2.drew
       rintro r w4 ⟨p,ao,c,bk,y,rfl,hbk,hbk4,hy4,h4,a4⟩
       refine ⟨_,rfl,?_⟩
       have a4':Aside [b] w3.heap.size w3 w4:=⟨a4.os,a4.tape,a4.output,a4.size,a4.block⟩
       have z4:=a4'.size
       have hbk':w3.heap.size≤bk:=hbk
       have hN4:=a4'.keep hN2 (zC hN2) (by simp;omega)
       have A4:=A2.trans (a4'.wide (S':=[b,nb]) (fun k _ h hb=>h (by simp at hb;simp [hb]))) (by omega)
       have cn46:=co hN4 6
       have cn47:=co (kA hN4 (.cells #[.int .i64 p,.slice ao 1 c,.string ⟨#[]⟩,.slice none 0 0,.slice (some ⟨bk,0,none⟩) 1 1] 43 (0,0))) 6
       simp at cn46
       simp only [gT,gS,gZ] at cn47)
    | (refine step_append_grows rfl (.tmp 39) (.tmp 42) 37 rfl 43 i0 (.agg #[.int .i64 0,.slice none 0 0,.string ⟨#[]⟩,.slice none 0 0,.slice none 0 0]) 5 96 Tryz.underlying37 hi hz0 hz1 hz2 rfl (by decide) none 0 0 [] rfl (fun _=>⟨rfl,rfl⟩) rfl (fun _ h=>by cases h)
         ⟨w4.heap.size,0,none⟩ 1 1 [.int .i64 p,.slice ao 1 c,.string ⟨#[]⟩,.slice none 0 0,.slice (some ⟨bk,0,none⟩) 1 1] rfl rfl (new5 _ _ _ _ _ _ _) (by intro u hu;simp at hu;rcases hu with rfl | rfl | rfl | rfl | rfl<;>rfl) (by decide) (by unfold maxLen;omega) (by omega) ?_
       intro v5 w5 hown hgrow
       have b5:Below w4.heap.size w4 w5:=((Below.refl _ w4).alloc nR _).grown hgrow (by simp) (fun k hk=>by cases hk)
       obtain ⟨q,cq,rfl,hq1,hq2,hq3,_,hqc⟩:=zAe hown (by omega)
       have hq4:=hqc 4 _ rfl
       have hN5:=(aside b5 (S:=[])).keep hN4 (zC hN4) (by simp)
       have cn56:=co hN5 6
       have fn56:=fo hN5 6
       simp at cn56
       clear hgrow hown))
  all_goals
    go_wp2_with fail
    refine (qZ ((h4.below b5).set (p:=⟨nb,6,none⟩) (by simp;omega) (by simp;omega) _) ⟨#[59]⟩ hs hn1).mono ?_
    rintro r w6 ⟨rfl,h6,a6⟩
    have z5:=b5.size
    have hq1':w4.heap.size+1≤q:=by simpa using hq1
    have z6:w5.heap.size≤w6.heap.size:=by simpa [World.setCell] using a6.size
    have hN6:=a6.keep (zJ hN5 6 _) (by simp [World.setCell];omega) (by simp;omega)
    have hbk6:=a6.keep (zK ((aside b5 (S:=[])).keep hbk4 (zC hbk4) (by simp)) (p:=⟨nb,6,none⟩) (by simp;omega) _) (by simp [World.setCell];have:=zC hbk4;omega) (by simp;omega)
    have hqb:w6.heap[q]?=w5.heap[q]?:=(a6.block q (by simp [World.setCell];omega) (by simp;omega)).trans (Below.heap_setCell _ _ _ _ (by simp;omega))
    have A6:=((A4.trans (aside b5) (by omega)).trans (Aside.setCell (S:=[b,nb]) (p:=⟨nb,6,none⟩) (by simp) _) nR).trans (a6.wide (S':=[b,nb]) (fun k _ h hb=>h (by simp at hb;simp [hb]))) (by simp [World.setCell];omega)
    go_wp2
    go_end0
    exact ⟨q,cq,bk,y,rfl,by simpa using hN6,hq3,by omega,by omega,by omega,(World.cell?_of_block (w:=w5) hqb).trans hq4,hbk6,hy4.kk,h6,A6⟩
def begunL:List Tk.Tok:=[⟨1,0,[110,111,100,101],0⟩,⟨2,5,[109,97,105,110],0⟩,⟨4,9,[40],0⟩,⟨2,10,[120],0⟩,⟨4,11,[58],0⟩,⟨1,13,[105,110,116],0⟩,⟨4,16,[41],0⟩,⟨4,18,[45,62],0⟩,⟨4,21,[40],0⟩,⟨2,22,[121],0⟩,⟨4,23,[58],0⟩,⟨1,25,[105,110,116],0⟩,⟨4,28,[41],0⟩,⟨4,30,[123],0⟩,⟨2,32,[121],0⟩,⟨4,34,[61],0⟩,⟨2,36,[120],0⟩,⟨4,38,[45],0⟩,⟨3,40,[49],1⟩,⟨4,42,[45],0⟩,⟨3,44,[50],2⟩,⟨4,45,[59],0⟩,⟨4,47,[125],0⟩]
def begunS:List UInt8:=[110,111,100,101,32,109,97,105,110,40,120,58,32,105,110,116,41,32,45,62,32,40,121,58,32,105,110,116,41,32,123,32,121,32,61,32,120,32,45,32,49,32,45,32,50,59,32,125]
theorem scan_begun:Tk.scan begunS=(begunL,0,0):=by rfl
def begunX:Ex:=.mk 5 2 0 ⟨#[]⟩ [] [.mk 5 2 0 ⟨#[]⟩ [] [.mk 3 0 0 (str [120]) [] [],.mk 1 0 1 ⟨#[]⟩ [] []],.mk 1 0 2 ⟨#[]⟩ [] []]
theorem zDq {b g cap op:Nat}:Gives 118 b g cap begunL 48 op 16 17 (.mk 3 0 0 (str [120]) [] [])∧Gives 118 b g cap begunL 48 op 18 19 (.mk 1 0 1 ⟨#[]⟩ [] [])∧Gives 118 b g cap begunL 48 op 20 21 (.mk 1 0 2 ⟨#[]⟩ [] []) :=
 ⟨zBl (zDD (unit_name (nx:=16) rfl (by decide)) rfl rfl rfl) (.stop rfl),zBl (zDD (zDC (nx:=18) rfl (by decide)) rfl rfl rfl) (.stop rfl),zBl (zDD (zDC (nx:=20) rfl (by decide)) rfl rfl rfl) (.stop rfl)⟩
theorem begun_whole {b g cap op:Nat}:Gives 102 b g cap begunL 48 op 16 21 begunX:=by
 have hp:=@zDq b g cap op;have hs:Gives 117 b g cap begunL 48 op 16 21 begunX:=sum_ok hp.1 (.step (n':=19) (k:=2) rfl (by decide) (by decide) hp.2.1 (.step (n':=21) (k:=2) rfl (by decide) (by decide) hp.2.2 (.stop rfl)));exact whole_ok (expr_ok (zDS (zDE hs rfl) (.stop rfl)) (.stop rfl)) (by decide)
theorem node_begun {w:World} {b g cap op:Nat} (h:Rd w b g cap begunL 48 0 op) :
  Calls Tryz.prog 62 #[.pointer (some ⟨b,0,none⟩)] w fun r w'=>∃ (a3 a4:Option Addr) (c3 c4 q cq bk:Nat) (y:ExV),
   r=.returned (.agg #[.string (str [109,97,105,110]),.int .i64 0,.slice none 0 0,.slice a3 1 c3,.slice a4 1 c4,.slice none 0 0,.slice (some ⟨q,0,none⟩) 1 cq])∧1≤cq∧w.heap.size≤q∧q<w'.heap.size∧w.heap.size≤bk ∧
   w'.cell? ⟨q,4,none⟩=some (.slice (some ⟨bk,0,none⟩) 1 1) ∧
   w'.heap[bk]?=some (.cells (exC y) 45 (0,0))∧y.k=2∧Rd w' b g cap begunL 48 23 op∧Aside [b] w.heap.size w w':=by
 have hb:=h.bb;have hg:=h.gb;have hf:=tokG1;have hmf:=vM;go_enter Tryz.func62,Tryz.ntmps62;go_wp2_with fail;refine (xH (h.alloc _)).mono ?_;unfold tokV;rintro r w1 ⟨rfl,b1⟩;have ep:peekT begunL 48 0=⟨1,0,[110,111,100,101],0⟩:=rfl;rw [ep];clear ep;have h1:=(h.alloc _).below b1;have z1:w.heap.size+1≤w1.heap.size:=(by simpa using b1.size);have hA1:=(aside b1 (S:=[])).keep (zF w _) (by simp) (by simp);have A1:=((Aside.refl (S:=[b]) (B:=w.heap.size) w).alloc nR _).trans (aside b1) (by simp);clear b1;go_wp2_with fail;refine (qZ (h1.alloc _) ⟨#[110,111,100,101]⟩ rfl (by decide)).mono ?_;rintro r w2 ⟨rfl,h2,a2⟩;have z2:w1.heap.size+1≤w2.heap.size:=(by simpa using a2.size);have hA2:=a2.keep (kA hA1 _) (by simp;omega) (by simp;omega);have hN2:=a2.keep (zF w1 _) (by simp) (by simp;omega);have A2:=(A1.alloc (by omega) _).trans a2 (by simp;omega);clear a2 hA1 A1;go_wp2_with fail;refine (zBu h2 rfl (by decide)).mono ?_;rintro r w3 ⟨rfl,h3,a3⟩;have z3:w2.heap.size≤w3.heap.size:=(by have:=a3.size;(try simp [World.setCell] at this);omega);have hA3:=a3.keep (hA2) (by (try simp [World.setCell]);omega) (by simp;omega);have hN3:=a3.keep (hN2) (by (try simp [World.setCell]);omega) (by simp;omega);have A3:=(A2).trans a3 (by (try simp [World.setCell]);omega);have en:str (peekT begunL 48 (0+1)).text=str [109,97,105,110]:=rfl;rw [en];clear en a3 hA2 hN2 A2;have cn0:=co hN3 0;have fn0:=fo hN3 0;simp at cn0;go_wp2_with fail;refine (jQ (h3.set (by simp;omega) (by simp;omega) _) ⟨#[60]⟩ rfl).mono ?_;rintro r w4 ⟨rfl,b4⟩;have h4:=(h3.set (p:=⟨w1.heap.size,0,none⟩) (by simp;omega) (by simp;omega) _).below b4;have z4:w3.heap.size≤w4.heap.size:=(by have:=b4.size;(try simp [World.setCell] at this);omega);have hA4:=(aside b4 (S:=[])).keep (zK hA3 (by simp;omega) _) (by (try simp [World.setCell]);omega) (by simp);have hN4:=(aside b4 (S:=[])).keep (zJ hN3 0 _) (by (try simp [World.setCell]);omega) (by simp);have A4:=(A3.set (p:=⟨w1.heap.size,0,none⟩) (by simp;omega) _).trans (aside b4) (by (try simp [World.setCell]);omega);simp at hN4;clear b4 hA3 hN3 A3 cn0 fn0;go_wp2_with fail;refine (qZ h4 ⟨#[40]⟩ rfl (by decide)).mono ?_;rintro r w5 ⟨rfl,h5,a5⟩;have z5:w4.heap.size≤w5.heap.size:=(by have:=a5.size;(try simp [World.setCell] at this);omega);have hA5:=a5.keep (hA4) (by (try simp [World.setCell]);omega) (by simp;omega);have hN5:=a5.keep (hN4) (by (try simp [World.setCell]);omega) (by simp;omega);have A5:=(A4).trans a5 (by (try simp [World.setCell]);omega);clear a5 hA4 hN4 A4;go_wp2_with fail;refine (jQ h5 ⟨#[41]⟩ rfl).mono ?_;rintro r w6 ⟨rfl,b6⟩;have h6:=h5.below b6;have z6:=b6.size;have hA6:=(aside b6 (S:=[])).keep hA5 (zC hA5) (by simp);have hN6:=(aside b6 (S:=[])).keep hN5 (zC hN5) (by simp);have A6:=A5.trans (aside b6) (by omega);clear b6 hA5 hN5 A5;go_wp2_with fail;refine (zCn h6 ⟨by decide,rfl,rfl,rfl,rfl⟩ rfl).mono ?_;rintro r w7 ⟨ao3,c3,rfl,h7,a7⟩;have z7:w6.heap.size≤w7.heap.size:=(by have:=a7.size;(try simp [World.setCell] at this);omega);have hA7:=a7.keep (hA6) (by (try simp [World.setCell]);omega) (by simp;omega);have hN7:=a7.keep (hN6) (by (try simp [World.setCell]);omega) (by simp;omega);have A7:=(A6).trans a7 (by (try simp [World.setCell]);omega);clear a7 hA6 hN6 A6;have cn3:=co hN7 3;have fn3:=fo hN7 3;simp at cn3;go_wp2_with fail;refine (qZ (h7.set (by simp;omega) (by simp;omega) _) ⟨#[41]⟩ rfl (by decide)).mono ?_;rintro r w8 ⟨rfl,h8,a8⟩;have z8:w7.heap.size≤w8.heap.size:=(by have:=a8.size;(try simp [World.setCell] at this);omega);have hA8:=a8.keep (zK hA7 (by simp;omega) _) (by (try simp [World.setCell]);omega) (by simp;omega);have hN8:=a8.keep (zJ hN7 3 _) (by (try simp [World.setCell]);omega) (by simp;omega);have A8:=(A7.set (p:=⟨w1.heap.size,3,none⟩) (by simp;omega) _).trans a8 (by (try simp [World.setCell]);omega);simp at hN8;clear a8 hA7 hN7 A7 cn3 fn3;go_wp2_with fail;refine (qZ h8 ⟨#[45,62]⟩ rfl (by decide)).mono ?_;rintro r w9 ⟨rfl,h9,a9⟩;have z9:w8.heap.size≤w9.heap.size:=(by have:=a9.size;(try simp [World.setCell] at this);omega);have hA9:=a9.keep (hA8) (by (try simp [World.setCell]);omega) (by simp;omega);have hN9:=a9.keep (hN8) (by (try simp [World.setCell]);omega) (by simp;omega);have A9:=(A8).trans a9 (by (try simp [World.setCell]);omega);clear a9 hA8 hN8 A8;go_wp2_with fail;refine (qZ h9 ⟨#[40]⟩ rfl (by decide)).mono ?_;rintro r w10 ⟨rfl,h10,a10⟩;have z10:w9.heap.size≤w10.heap.size:=(by have:=a10.size;(try simp [World.setCell] at this);omega);have hA10:=a10.keep (hA9) (by (try simp [World.setCell]);omega) (by simp;omega);have hN10:=a10.keep (hN9) (by (try simp [World.setCell]);omega) (by simp;omega);have A10:=(A9).trans a10 (by (try simp [World.setCell]);omega);clear a10 hA9 hN9 A9;go_wp2_with fail;refine (zCn h10 ⟨by decide,rfl,rfl,rfl,rfl⟩ rfl).mono ?_;rintro r w11 ⟨ao4,c4,rfl,h11,a11⟩;have z11:w10.heap.size≤w11.heap.size:=(by have:=a11.size;(try simp [World.setCell] at this);omega);have hA11:=a11.keep (hA10) (by (try simp [World.setCell]);omega) (by simp;omega);have hN11:=a11.keep (hN10) (by (try simp [World.setCell]);omega) (by simp;omega);have A11:=(A10).trans a11 (by (try simp [World.setCell]);omega);clear a11 hA10 hN10 A10;have cn4:=co hN11 4;have fn4:=fo hN11 4;simp at cn4;go_wp2_with fail;refine (qZ (h11.set (by simp;omega) (by simp;omega) _) ⟨#[41]⟩ rfl (by decide)).mono ?_;rintro r w12 ⟨rfl,h12,a12⟩;have z12:w11.heap.size≤w12.heap.size:=(by have:=a12.size;(try simp [World.setCell] at this);omega);have hA12:=a12.keep (zK hA11 (by simp;omega) _) (by (try simp [World.setCell]);omega) (by simp;omega);have hN12:=a12.keep (zJ hN11 4 _) (by (try simp [World.setCell]);omega) (by simp;omega);have A12:=(A11.set (p:=⟨w1.heap.size,4,none⟩) (by simp;omega) _).trans a12 (by (try simp [World.setCell]);omega);simp at hN12;clear a12 hA11 hN11 A11 cn4 fn4;go_wp2_with fail;refine (qZ h12 ⟨#[123]⟩ rfl (by decide)).mono ?_;rintro r w13 ⟨rfl,h13,a13⟩;have z13:w12.heap.size≤w13.heap.size:=(by have:=a13.size;(try simp [World.setCell] at this);omega);have hA13:=a13.keep (hA12) (by (try simp [World.setCell]);omega) (by simp;omega);have hN13:=a13.keep (hN12) (by (try simp [World.setCell]);omega) (by simp;omega);have A13:=(A12).trans a13 (by (try simp [World.setCell]);omega);clear a13 hA12 hN12 A12;go_wp2;go_loopg [48] 1 (fun k v wr=>(k=1∧wr=w13)∨(k=0∧∃ (q cq bk:Nat) (y:ExV),wr.heap[w1.heap.size]?=some (.cells #[.string (str [109,97,105,110]),.int .i64 0,.slice none 0 0,.slice ao3 1 c3,.slice ao4 1 c4,.slice none 0 0,.slice (some ⟨q,0,none⟩) 1 cq] 39 (0,0))∧1≤cq∧w1.heap.size<q∧q<wr.heap.size∧w1.heap.size<bk ∧
   wr.cell? ⟨q,4,none⟩=some (.slice (some ⟨bk,0,none⟩) 1 1) ∧
   wr.heap[bk]?=some (.cells (exC y) 45 (0,0))∧y.k=2∧Rd wr b g cap begunL 48 22 op∧Aside [b] w.heap.size w wr ∧
   wr.heap[w.heap.size]?=some (.cells #[.string ⟨#[]⟩,.int .i64 0,.slice none 0 0,.slice none 0 0,.slice none 0 0,.slice none 0 0,.slice none 0 0] 39 (0,0))))
 case atStart=>exact .inl ⟨rfl,rfl⟩
 case round=>
  rcases hrel with ⟨rfl,rfl⟩ | ⟨rfl,q,cq,bk,y,hN,hcq,hq1,hq2,hbk1,hq4,hbk,hyk,hrd,has,hA⟩
  ·go_wp2_with fail
   refine (jQ h13 ⟨#[125]⟩ rfl).mono ?_;rintro r w14 ⟨rfl,b14⟩;have h14:=h13.below b14;have z14:=b14.size;have hA14:=(aside b14 (S:=[])).keep hA13 (zC hA13) (by simp);have hN14:=(aside b14 (S:=[])).keep hN13 (zC hN13) (by simp);have A14:=A13.trans (aside b14) (by omega);clear b14 hA13 hN13 A13;go_wp2_with fail;refine (line_eq h14 hN14 (by omega) (by omega) rfl rfl (by decide) rfl rfl rfl begun_whole rfl (by decide)).mono ?_;rintro r w15 ⟨q,cq,bk,y,rfl,hN15,hcq,hq1,hq2,hbk1,hq4,hbk,hyk,h15,a15⟩;have z15:=a15.size;have hA15:=a15.keep hA14 (zC hA14) (by simp;omega);have A15:=A14.trans ((a15.mono (B':=w.heap.size) (by omega)).wide (S':=[b]) (fun k hk hn=>by simp at hn;simp;omega)) nR;go_wp2;go_roundg 0
   case measure=>omega
   case rel=>exact .inr ⟨rfl,q,cq,bk,y,hN15,hcq,by omega,hq2,by omega,hq4,hbk,hyk,h15,A15,hA15⟩
  ·go_wp2_with fail
   refine (zBt hrd ⟨#[125]⟩ rfl (by decide)).mono ?_;rintro r w16 ⟨rfl,h16,a16⟩;have z16:=a16.size;have hN16:=a16.keep hN (zC hN) (by simp;omega);have hA16:=a16.keep hA (zC hA) (by simp;omega);have hbk16:=a16.keep hbk (zC hbk) (by simp;omega);have hqc:=(World.cell?_of_block (w:=wr) (a:=⟨q,4,none⟩) (a16.block q hq2 (by simp;omega))).trans hq4;have A16:=has.trans a16 (by have:=has.size;omega);clear a16 hN hA hbk hq4 has;have fa:=fun o=>fo hA16 o;have ca0:=co hA16 0;have ca1:=co hA16 1;have ca2:=co hA16 2;have ca3:=co hA16 3;have ca4:=co hA16 4;have ca5:=co hA16 5;have ca6:=co hA16 6;have cn0:=co hN16 0;have cn1:=co hN16 1;have cn2:=co hN16 2;have cn3:=co hN16 3;have cn4:=co hN16 4;have cn5:=co hN16 5;have cn6:=co hN16 6;simp at ca0 ca1 ca2 ca3 ca4 ca5 ca6 cn0 cn1 cn2 cn3 cn4 cn5 cn6;go_wp2;have hbkZ:=(zK (zK (zK (zK (zK (zK (zK hbk16 (p:=⟨w.heap.size,0,none⟩) (by simp;omega) (.string (str [109,97,105,110]))) (p:=⟨w.heap.size,1,none⟩) (by simp;omega) (.int .i64 0)) (p:=⟨w.heap.size,2,none⟩) (by simp;omega) (.slice none 0 0)) (p:=⟨w.heap.size,3,none⟩) (by simp;omega) (.slice ao3 1 c3)) (p:=⟨w.heap.size,4,none⟩) (by simp;omega) (.slice ao4 1 c4)) (p:=⟨w.heap.size,5,none⟩) (by simp;omega) (.slice none 0 0)) (p:=⟨w.heap.size,6,none⟩) (by simp;omega) (.slice (some ⟨q,0,none⟩) 1 cq));have hqZ:∀ (k:Nat) (u:Value) (W:World),(W.setCell ⟨w.heap.size,k,none⟩ u).cell? ⟨q,4,none⟩=W.cell? ⟨q,4,none⟩:=fun k u W=>World.cell?_of_block (w:=W) (Below.heap_setCell _ _ _ _ (by simp;omega));have hzq:q<w16.heap.size:=(by omega);refine bodyPost_ret (v:=.agg #[.string (str [109,97,105,110]),.int .i64 0,.slice none 0 0,.slice ao3 1 c3,.slice ao4 1 c4,.slice none 0 0,.slice (some ⟨q,0,none⟩) 1 cq]) (by simp [results,Tryz.results62,go_sem,ca0,ca1,ca2,ca3,ca4,ca5,ca6]) rfl ⟨ao3,ao4,c3,c4,q,cq,bk,y,rfl,hcq,by omega,by simpa [World.setCell] using hzq,by omega,?_,hbkZ,hyk,?_,?_⟩
   ·rw [hqZ,hqZ,hqZ,hqZ,hqZ,hqZ,hqZ]
    exact hqc
   ·exact (((((((h16.set (by simp;omega) (by simp;omega) _).set (by simp;omega) (by simp;omega) _).set (by simp;omega) (by simp;omega) _).set (by simp;omega) (by simp;omega) _).set (by simp;omega) (by simp;omega) _).set (by simp;omega) (by simp;omega) _).set (by simp;omega) (by simp;omega) _)
   ·exact (((((((A16.set (by simp) _).set (by simp) _).set (by simp) _).set (by simp) _).set (by simp) _).set (by simp) _).set (by simp) _)
end Go.Proofs.YthkpanbgkimhoaaGreatDoor
