import Derived.Test.YtoldepieaafakaaGreatDoorC37
import Derived.Shelf.Bits.Mul64
import Derived.Laws.CopyRow
import Derived.Lib.SlBuf
set_option linter.unusedVariables false
set_option linter.unusedSimpArgs false
set_option maxHeartbeats 64000000
set_option maxRecDepth 100000
namespace Go.Proofs.YtoldepieaafakaaGreatDoor
open Go.RowKit Go.IntWalk
theorem Tryz.infoSp:(Tryz.prog.info? 44).map (fun i=>(i.zero,i.size,i.bytes))=some (some (.agg #[.int .i64 0,.int .i64 0]),2,16):=by kernel_rfl
def SpB (w:World) (g:Nat) (l:List Sk.Sp):Prop:=∃ cur:Array Value,w.heap[g]?=some (.cells cur 44 (0,0))/\cur.size=l.length*2/\∀ i (h:i<l.length),cur[i*2]?=some (.int .i64 (l[i]).1)/\cur[i*2+1]?=some (.int .i64 (l[i]).2)
theorem SpB.lt {w:World} {g:Nat} {l:List Sk.Sp} (h:SpB w g l):g<w.heap.size:=by
 obtain ⟨cur,h1,-⟩:=h;exact zG h1
theorem SpB.keep {w w':World} {g:Nat} {l:List Sk.Sp} (h:SpB w g l) (hk:w'.heap[g]?=w.heap[g]?):SpB w' g l:=by
 obtain ⟨cur,h1,h2⟩:=h;exact ⟨cur,hk.trans h1,h2⟩
theorem SpB.under {w w':World} {g:Nat} {l:List Sk.Sp} (h:SpB w g l) (b:Below w.heap.size w w'):SpB w' g l:=h.keep (b.block _ h.lt)
theorem SpB.at {w:World} {g:Nat} {l:List Sk.Sp} (h:SpB w g l) {i:Nat} (hi:i<l.length):w.cell? ⟨g,i*2,none⟩=some (.int .i64 (l[i]).1)/\w.cell? ⟨g,i*2+1,none⟩=some (.int .i64 (l[i]).2):=by
 obtain ⟨cur,h1,h2,h3⟩:=h;have:=h3 i hi;exact ⟨by simp [World.cell?,h1,this.1],by simp [World.cell?,h1,this.2]⟩
theorem SpB.free {w:World} {g:Nat} {l:List Sk.Sp} (h:SpB w g l) (o:Nat):w.frozen? ⟨g,o,none⟩=false:=by
 obtain ⟨cur,h1,-⟩:=h;exact foQ h1 o
theorem SpB.setTo {w:World} {g:Nat} {l:List Sk.Sp} (h:SpB w g l) {i:Nat} (hi:i<l.length) (b:Int):SpB (w.setCell ⟨g,i*2+1,none⟩ (.int .i64 b)) g (l.set i ((l[i]).1,b)):=by
 obtain ⟨cur,h1,h2,h3⟩:=h;refine ⟨_,zP h1 (i*2+1) (.int .i64 b),by simp [h2],fun j hj=>?_⟩;rw [List.length_set] at hj;have hs:=h3 j hj;rw [Array.getElem?_setIfInBounds,Array.getElem?_setIfInBounds,if_neg (by omega)];by_cases e:j=i
 ·subst e
  rw [if_pos rfl,if_pos (by rw [h2];omega)];simp [hs.1]
 ·rw [if_neg (by omega)]
  rw [List.getElem_set_ne (by omega)];exact hs
theorem SpB.set {w:World} {g:Nat} {l:List Sk.Sp} (h:SpB w g l) {i:Nat} (hi:i<l.length) (a b:Int):SpB ((w.setCell ⟨g,i*2,none⟩ (.int .i64 a)).setCell ⟨g,i*2+1,none⟩ (.int .i64 b)) g (l.set i (a,b)):=by
 obtain ⟨cur,h1,h2,h3⟩:=h;refine ⟨_,zP (zP h1 (i*2) (.int .i64 a)) (i*2+1) (.int .i64 b),by simp [h2],fun j hj=>?_⟩;rw [List.length_set] at hj;have hs:=h3 j hj;rw [Array.getElem?_setIfInBounds,Array.getElem?_setIfInBounds,Array.getElem?_setIfInBounds,Array.getElem?_setIfInBounds,if_neg (by omega)];by_cases e:j=i
 ·subst e
  rw [if_pos rfl,if_pos (by rw [h2];omega),if_pos rfl,if_pos (by simp [h2];omega)];simp
 ·rw [if_neg (by omega),if_neg (by omega),if_neg (by omega)]
  rw [List.getElem_set_ne (by omega)];exact hs
theorem make_spans (c:Nat) (hn:c<=1000000) (V:World):∃ cur:Array Value,(Instr.makeSlice 29 (.int .i64 (c:Int)) (.int .i64 (c:Int))).run Tryz.prog V=.ok (.slice (some ⟨V.heap.size,0,none⟩) c c) (V.alloc (.cells cur 44 (0,0)))/\cur.size=c*2:=by
 obtain ⟨i0,hi,hz0,hz1,hz2⟩:=info_parts Tryz.infoSp;have h:=run_make (P:=Tryz.prog) V 29 44 i0 (.agg #[.int .i64 0,.int .i64 0]) Tryz.underlying29 hi hz0 .i64 .i64 (c:Int) (c:Int) (by omega) (by omega) (by rw [hz2];simp;omega) (by omega);refine ⟨madeCells (Value.agg #[.int .i64 0,.int .i64 0]).cells (((c:Int)).toNat*i0.size),by simpa using h,?_⟩;rw [hz1];simp [madeCells]
theorem run_copyK {P:Program} (w:World) (dT sT ty elem:TypeId) (g o dLen dCap:Nat) (a:Addr) (sLen sCap k:Nat) (cur:Array Value) (t:TypeId) (cs:List Value)
  (hu:P.underlying dT=some (.slice elem)) (hs:(P.info? elem).map (·.size)=some k)
  (hg:w.heap[g]?=some (.cells cur t (0,0))) (hn:cs.length=Nat.min sLen dLen*k)
  (hsrc:∀ j v,cs[j]?=some v->w.cell? (a.add j)=some v) (hfit:o+cs.length<=cur.size) (h1:∀ v ∈ cs,v.oneCell'=true) :
  (Builtin.copy_ #[dT,sT] ty #[.slice (some ⟨g,o,none⟩) dLen dCap,.slice (some a) sLen sCap]).run P w =
   .ok (goInt (Nat.min sLen dLen)) (w.setRow g (cur.toList.take o++cs++cur.toList.drop (o+cs.length)).toArray):=by
 have hl:=run_loadCells_list (P:=P) w a cs hsrc;have hst:=run_storeCells_at P g o t cs 0 cur w hg (by simpa using hfit) h1
 cases hq:P.info? elem with
 | none=>simp [hq] at hs
 | some i=>
  have hi:i.size=k:=(by simpa [hq] using hs);simp [Builtin.copy_,run_underlying hu,Builtin.lenOf,Builtin.firstCells,sizeOf,typeInfo,hq,hi,<-hn,hl,hst]
theorem mul49_any (x y:Nat) (hx:x<18446744073709551616) (hy:y<18446744073709551616) (w:World) :
  Calls Tryz.prog 49 #[.int .u64 x,.int .u64 y] w fun e w'=>e=.returned (.tuple #[.int .u64 ((x*y / 18446744073709551616:Nat):Int),.int .u64 ((x*y % 18446744073709551616:Nat):Int)])/\w'=w:=by
 obtain ⟨bd,bt,bw,hhi⟩:=Lib.mul64_hi x y hx hy;have ba:=Lib.half_mul_le (a:=x / 4294967296) (b:=y / 4294967296) (by omega) (by omega);have bb:=Lib.half_mul_le (a:=x / 4294967296) (b:=y % 4294967296) (by omega) (by omega);have bc:=Lib.half_mul_le (a:=x % 4294967296) (b:=y / 4294967296) (by omega) (by omega);have ba':x / 4294967296*(y / 4294967296)<18446744073709551616:=(by omega);have bb':x / 4294967296*(y % 4294967296)<18446744073709551616:=(by omega);have bc':x % 4294967296*(y / 4294967296)<18446744073709551616:=(by omega);have bh1:x / 4294967296*(y / 4294967296)+(x / 4294967296*(y % 4294967296)+x % 4294967296*(y % 4294967296) / 4294967296) / 4294967296<18446744073709551616:=(by omega);have bh:x / 4294967296*(y / 4294967296)+(x / 4294967296*(y % 4294967296)+x % 4294967296*(y % 4294967296) / 4294967296) / 4294967296+((x / 4294967296*(y % 4294967296)+x % 4294967296*(y % 4294967296) / 4294967296) % 4294967296+x % 4294967296*(y / 4294967296)) / 4294967296<18446744073709551616:=(by omega);go_enter Tryz.func49,Tryz.ntmps49;go_wp2;simp only [Mul64.maskN x hx,Mul64.maskN y hy,Mul64.divN,Mul64.mulN,Mul64.addN,Mul64.wrapN _ bd,Mul64.wrapN _ bb',Mul64.wrapN _ bt,Mul64.maskN _ bt,Mul64.wrapN _ bc',Mul64.wrapN _ bw,Mul64.wrapN _ ba',Mul64.wrapN _ bh1,Mul64.wrapN _ bh,Mul64.wrapM (x*y)];rw [hhi]
 go_ret2
 exact ⟨rfl,rfl⟩
theorem mul22_any (n:Nat) (hn:n<18446744073709551616) (w:World) :
  Calls Tryz.prog 22 #[.int .u64 1,.int .u64 (n:Int)] w fun e w'=>e=.returned (.tuple #[.int .u64 0,.int .u64 (n:Int)])/\w'=w:=by
 have h:=mul49_any 1 n (by omega) hn w;rw [Nat.one_mul,Nat.div_eq_of_lt hn,Nat.mod_eq_of_lt hn] at h;go_enter Tryz.func22,Tryz.ntmps22;go_wp2_with fail;refine h.mono ?_;rintro e w2 ⟨rfl,hw⟩;subst hw;go_wp2
 go_ret2
 exact ⟨rfl,rfl⟩
end Go.Proofs.YtoldepieaafakaaGreatDoor
