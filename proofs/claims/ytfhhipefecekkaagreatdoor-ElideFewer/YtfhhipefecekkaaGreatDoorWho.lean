/-
  A part of the proof.
-/
import Derived.Test.YtfhhipefecekkaaGreatDoorParseA
import Derived.Defers
import Derived.Recover
set_option maxHeartbeats 16000000
set_option maxRecDepth 100000
namespace Go.Proofs.YtfhhipefecekkaaGreatDoor
open Go.Proofs.Tryz
open Go.RowKit
theorem L3a(q:Nat)(er p x y:Int)(older:List PanicEntry)(w:World)(h0:w.cell? (aD q 0)=some (iV x))(h1:w.cell? (aD q 1)=some (iV y))(hz:∀o,w.frozen? (aD q o)=false):
 CallsD prog 39 #[pV q] (.panicking ({ v:= .iface 103 (.agg #[iV er,iV p]),recovered:=false }::older)) w λe u' w'=>
  e=rT/\u'= .panicking ({ v:= .iface 103 (.agg #[iV er,iV p]),recovered:=true }::older)/\Chg (λk=>k=q\/w.heap.size<=k) w w'/\w'.cell? (aD q 0)=some (iV er)/\w'.cell? (aD q 1)=some (iV p):=by
 refine callsD_of_wpS func39 rfl λc₀ cs hu=> ?_;apply wpS_seq;apply wpS_region;simp[wpOpsS,go_sem,recoverD,hu,ntmps39,Exit.thenS];refine wpS_of_wp ?_;have hta:∀w:World,(Instr.typeAssert (.iface 103 (.agg #[iV er,iV p])) 20 103 true).run prog w= .ok (.tuple #[.agg #[iV er,iV p],.bool true]) w:=λ_=>by kernel_rfl
 have e1:(#[pV q]++((Array.replicate 15 undef).setIfInBounds 3 (.iface 103 (.agg #[iV er,iV p]))).setIfInBounds 0 (.iface 103 (.agg #[iV er,iV p])):Array Value)=#[pV q,.iface 103 (.agg #[iV er,iV p]),undef,undef,.iface 103 (.agg #[iV er,iV p]),undef,undef,undef,undef,undef,undef,undef,undef,undef,undef,undef]:=rfl;rw[e1];have hq:=World.block_lt_of_cell? w _ h0;go_wp2;have c3:Chg (λk=>k=q\/w.heap.size<=k) w (((w.setCell (aD q 0) (iV er)).setCell (aD q 1) (iV p)).alloc (.cells #[iV er,iV p] 103)):=
  (((Chg.set w (aD q 0) _).mono λ_ _ x=> .inl x).trans (Chg.set _ (aD q 1) _) (λ_ _ x=> .inl x)).trans (Chg.alloc No _ _) (λ_ _ x=>x.elim)
 have z0:(((w.setCell (aD q 0) (iV er)).setCell (aD q 1) (iV p)).alloc (.cells #[iV er,iV p] 103)).cell? (aD q 0)=some (iV er):=by simp[go_sem,h0,hq]
 have z1:(((w.setCell (aD q 0) (iV er)).setCell (aD q 1) (iV p)).alloc (.cells #[iV er,iV p] 103)).cell? (aD q 1)=some (iV p):=by simp[go_sem,h1,hq]
 exact⟨rfl,_,rfl,_,by simp[results,results39],rfl,rfl,c3,z0,z1⟩
theorem J1a(q:Nat)(w:World):
 CallsD prog 39 #[pV q] .returning w λe u' w'=>
  e=rT/\u'= .returning/\Chg No w w':=by
 refine callsD_of_wpS func39 rfl λc₀ cs hu=> ?_;apply wpS_seq;apply wpS_region;simp[wpOpsS,go_sem,recoverD,hu,ntmps39,Exit.thenS];refine wpS_of_wp ?_;have hta:∀w:World,(Instr.typeAssert .nilIface 20 103 true).run prog w= .ok (.tuple #[.agg #[iV 0,iV 0],.bool false]) w:=λ_=>by kernel_rfl
 have hne:∀w:World,(binOp BinOp.neq 20 .nilIface .nilIface).run prog w= .ok (.bool false) w:=λ_=>by kernel_rfl
 have e1:(#[pV q]++((Array.replicate 15 undef).setIfInBounds 3 .nilIface).setIfInBounds 0 .nilIface:Array Value)=#[pV q,.nilIface,undef,undef,.nilIface,undef,undef,undef,undef,undef,undef,undef,undef,undef,undef,undef]:=rfl;rw[e1];go_wp2;cases c₀;simp only at hu;subst hu;exact⟨rfl,_,rfl,_,by simp[results,results39],rfl,rfl,Chg.alloc _ _ _⟩
section
variable{w:World}{B pb:Nat}{tv:Value}{L:List M.Tk}{ok:Nat->Prop}{d:Nat}{s:M.St}
theorem W5{w w':World}{q o:Nat}{cs:Array Value}{e:TypeId}{v:Value}(hk:Kept B ok w w')(hq:w.heap[q]? =some (.cells cs e (0,0)))(he:e≠92/\e≠70/\e≠66)(hv:cs[o]? =some v):
 w'.heap[q]? =some (.cells cs e (0,0))/\w'.cell? (aD q o)=some v:=by
 have h1:w'.heap[q]? =some (.cells cs e (0,0)):=by
  rw[hk.block q (ltG hq) (λx=> ?_)]
  · exact hq
  · obtain⟨cs',e',fz,hh,r⟩:=x.2.1;rw[hq]at hh;simp only[zQ,xW]at hh;obtain⟨_,rfl,_⟩:=hh;rcases r with r|r|r
    · exact he.1 r
    · exact he.2.1 r
    · exact he.2.2 r
 exact⟨h1,by rw[cell_of_row w' q o _ _ _ h1];exact hv⟩
theorem I6a(w:World)(a b c:Obj):(((w.alloc a).alloc b).alloc c).heap[w.heap.size]? =some a/\(((w.alloc a).alloc b).alloc c).heap[w.heap.size+1]? =some b/\(((w.alloc a).alloc b).alloc c).heap[w.heap.size+2]? =some c:=by
 refine⟨?_, ?_, ?_⟩
 · rw[Below.heap_alloc _ _ _ (by simp;omega),Below.heap_alloc _ _ _ (by simp)];exact heap_alloc_new w a
 · rw[Below.heap_alloc _ _ _ (by simp)];have:=heap_alloc_new (w.alloc a) b;simpa using this
 · have:=heap_alloc_new ((w.alloc a).alloc b) c;simpa using this
end
end Go.Proofs.YtfhhipefecekkaaGreatDoor
