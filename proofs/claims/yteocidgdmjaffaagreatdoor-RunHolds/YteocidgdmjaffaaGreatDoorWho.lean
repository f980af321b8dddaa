/-
  A part of the proof.
-/
import Derived.Test.YteocidgdmjaffaaGreatDoorParseA
import Derived.Defers
import Derived.Recover
set_option maxHeartbeats 0
set_option linter.all false
set_option maxRecDepth 100000
namespace Go.Proofs.YteocidgdmjaffaaGreatDoor
open Go.Proofs.Tryz
open Go.RowKit
def AF(q)(a p x y)(f)(w:E)(c:w.cell? (J q 0)=some (U x))(i:w.cell? (J q 1)=some (U y))(u:∀o,w.frozen? (J q o)=false):
 CallsD prog 42 #[pV q] (.panicking ({v:=.iface 115 (.agg #[U a,U p]),recovered:=false}::f)) w λe l b=>
  e=rT/\l=.panicking ({v:=.iface 115 (.agg #[U a,U p]),recovered:=true}::f)/\I (λk=>k=q\/w.heap.size<=k) w b/\b.cell? (J q 0)=some (U a)/\b.cell? (J q 1)=some (U p):=by
 refine callsD_of_wpS func42 rfl λs r j=>?_;apply wpS_seq;apply wpS_region;simp[wpOpsS,go_sem,recoverD,j,ntmps42,Exit.thenS];refine wpS_of_wp ?_;have t:∀w:E,(Instr.typeAssert (.iface 115 (.agg #[U a,U p])) 20 115 true).run prog w=.ok (.tuple #[.agg #[U a,U p],.bool true]) w:=λ_=>by kernel_rfl
 have h:(#[pV q]++((Array.replicate 15 undef).setIfInBounds 3 (.iface 115 (.agg #[U a,U p]))).setIfInBounds 0 (.iface 115 (.agg #[U a,U p])):Array Value)=#[pV q,.iface 115 (.agg #[U a,U p]),undef,undef,.iface 115 (.agg #[U a,U p]),undef,undef,undef,undef,undef,undef,undef,undef,undef,undef,undef]:=rfl;rw[h];have d:=World.block_lt_of_cell? w _ c;go_wp2;have g:I (λk=>k=q\/w.heap.size<=k) w (((w.setCell (J q 0) (U a)).setCell (J q 1) (U p)).alloc (.cells #[U a,U p] 115)):=
  (((I.set w (J q 0) _).mono λ_ _ x=>.inl x).trans (I.set _ (J q 1) _) (λ_ _ x=>.inl x)).trans (I.alloc No _ _) (λ_ _ x=>x.elim);have m:(((w.setCell (J q 0) (U a)).setCell (J q 1) (U p)).alloc (.cells #[U a,U p] 115)).cell? (J q 0)=some (U a):=by simp[go_sem,c,d]
 have n:(((w.setCell (J q 0) (U a)).setCell (J q 1) (U p)).alloc (.cells #[U a,U p] 115)).cell? (J q 1)=some (U p):=by simp[go_sem,i,d]
 exact⟨rfl,_,rfl,_,by simp[results,results42],rfl,rfl,g,m,n⟩
def GS(q)(w:E):
 CallsD prog 42 #[pV q] .returning w λe d f=>
  e=rT/\d=.returning/\I No w f:=by
 refine callsD_of_wpS func42 rfl λb g a=>?_;apply wpS_seq;apply wpS_region;simp[wpOpsS,go_sem,recoverD,a,ntmps42,Exit.thenS];refine wpS_of_wp ?_;have h:∀w:E,(Instr.typeAssert .nilIface 20 115 true).run prog w=.ok (.tuple #[.agg #[U 0,U 0],.bool false]) w:=λ_=>by kernel_rfl
 have c:(#[pV q]++((Array.replicate 15 undef).setIfInBounds 3 .nilIface).setIfInBounds 0 .nilIface:Array Value)=#[pV q,.nilIface,undef,undef,.nilIface,undef,undef,undef,undef,undef,undef,undef,undef,undef,undef,undef]:=rfl;rw[c];go_wp2;cases b;simp only at a;subst a;exact⟨rfl,_,rfl,_,by simp[results,results42],rfl,rfl,I.alloc _ _ _⟩
section
variable{w:E}{B b:Nat}{c:Value}{L:List Tk}{a:Nat->Prop}{d:Nat}{s:St}
def Y3{w g}{q o}{f}{e}{v}(h:Kept B a w g)(i:w.heap[q]?=some (.cells f e (0,0)))(n:e≠103/\e≠85/\e≠81)(t:f[o]?=some v):
 g.heap[q]?=some (.cells f e (0,0))/\g.cell? (J q o)=some v:=by
 have m:g.heap[q]?=some (.cells f e (0,0)):=by
  rw[h.block q (aI i) (λx=>?_)]
  .omega
  .obtain⟨j,k,l,p,r⟩:=x.2.1;grind
 grind[cell_of_row]
def GZ(w:E)(e f g):(((w.alloc e).alloc f).alloc g).heap[w.heap.size]?=some e/\(((w.alloc e).alloc f).alloc g).heap[w.heap.size+1]?=some f/\(((w.alloc e).alloc f).alloc g).heap[w.heap.size+2]?=some g:=by
 refine⟨?_,?_,?_⟩
 .grind[Below.heap_alloc,yY]
 .rw[Below.heap_alloc _ _ _ (by simp)];have:=yY (w.alloc e) f;simp_all
 .have:=yY ((w.alloc e).alloc f) g;simp_all
end
