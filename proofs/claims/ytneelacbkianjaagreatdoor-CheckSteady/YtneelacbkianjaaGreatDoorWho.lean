/-
  A part of the proof.
-/
import Derived.Test.YtneelacbkianjaaGreatDoorParseA
import Derived.Defers
import Derived.Recover
set_option maxHeartbeats 16000000
set_option maxRecDepth 100000
namespace Go.Proofs.YtneelacbkianjaaGreatDoor
open Go.Proofs.Tryz
open Go.RowKit
theorem H1a(q:Nat)(a p x y:Int)(f:List PanicEntry)(w:lZ)(c:w.cell? (J q 0)=some (U x))(i:w.cell? (J q 1)=some (U y))(u:∀o,w.frozen? (J q o)=false):
 CallsD prog 41 #[pV q] (.panicking ({ v:= .iface 109 (.agg #[U a,U p]),recovered:=false }::f)) w λe l b=>
  e=rT/\l= .panicking ({ v:= .iface 109 (.agg #[U a,U p]),recovered:=true }::f)/\I (λk=>k=q\/w.heap.size<=k) w b/\b.cell? (J q 0)=some (U a)/\b.cell? (J q 1)=some (U p):=by
 refine callsD_of_wpS func41 rfl λs r j=> ?_;apply wpS_seq;apply wpS_region;simp[wpOpsS,go_sem,recoverD,j,ntmps41,Exit.thenS];refine wpS_of_wp ?_;have t:∀w:lZ,(Instr.typeAssert (.iface 109 (.agg #[U a,U p])) 20 109 true).run prog w= .ok (.tuple #[.agg #[U a,U p],.bool true]) w:=λ_=>by kernel_rfl
 have h:(#[pV q]++((Array.replicate 15 undef).setIfInBounds 3 (.iface 109 (.agg #[U a,U p]))).setIfInBounds 0 (.iface 109 (.agg #[U a,U p])):Array Value)=#[pV q,.iface 109 (.agg #[U a,U p]),undef,undef,.iface 109 (.agg #[U a,U p]),undef,undef,undef,undef,undef,undef,undef,undef,undef,undef,undef]:=rfl;rw[h];have d:=World.block_lt_of_cell? w _ c;go_wp2;have g:I (λk=>k=q\/w.heap.size<=k) w (((w.setCell (J q 0) (U a)).setCell (J q 1) (U p)).alloc (.cells #[U a,U p] 109)):=
  (((I.set w (J q 0) _).mono λ_ _ x=> .inl x).trans (I.set _ (J q 1) _) (λ_ _ x=> .inl x)).trans (I.alloc No _ _) (λ_ _ x=>x.elim)
 have m:(((w.setCell (J q 0) (U a)).setCell (J q 1) (U p)).alloc (.cells #[U a,U p] 109)).cell? (J q 0)=some (U a):=by simp[go_sem,c,d]
 have n:(((w.setCell (J q 0) (U a)).setCell (J q 1) (U p)).alloc (.cells #[U a,U p] 109)).cell? (J q 1)=some (U p):=by simp[go_sem,i,d]
 exact⟨rfl,_,rfl,_,by simp[results,results41],rfl,rfl,g,m,n⟩
theorem I6a(q:Nat)(w:lZ):
 CallsD prog 41 #[pV q] .returning w λe d f=>
  e=rT/\d= .returning/\I No w f:=by
 refine callsD_of_wpS func41 rfl λb g a=> ?_;apply wpS_seq;apply wpS_region;simp[wpOpsS,go_sem,recoverD,a,ntmps41,Exit.thenS];refine wpS_of_wp ?_;have i:∀w:lZ,(Instr.typeAssert .nilIface 20 109 true).run prog w= .ok (.tuple #[.agg #[U 0,U 0],.bool false]) w:=λ_=>by kernel_rfl
 have h:∀w:lZ,(binOp BinOp.neq 20 .nilIface .nilIface).run prog w= .ok (.bool false) w:=λ_=>by kernel_rfl
 have c:(#[pV q]++((Array.replicate 15 undef).setIfInBounds 3 .nilIface).setIfInBounds 0 .nilIface:Array Value)=#[pV q,.nilIface,undef,undef,.nilIface,undef,undef,undef,undef,undef,undef,undef,undef,undef,undef,undef]:=rfl;rw[c];go_wp2;cases b;simp only at a;subst a;exact⟨rfl,_,rfl,_,by simp[results,results41],rfl,rfl,I.alloc _ _ _⟩
section
variable{w:lZ}{B pb:Nat}{c:Value}{L:List Tk}{ok:Nat->Prop}{d:Nat}{s:St}
def J0e(w:lZ)(B pb:Nat)(c:Value)(L:List Tk)(ok:Nat->Prop)(d:Nat)(g:Sp->Option (Out Int))(e:Ending)(f:lZ):Prop:=
 Kept B ok w f/\∃o,Ev L g o/\match o with
  | .ok a _=>if (tk L a.i).kind=6 then e=rT/\Pst f B pb c L ok d a else e=gu 1 ((tk L a.i).at':Int)
  | .fail b p=>e=gu b p/\b≠0
def M1c(w:lZ)(B pb:Nat)(c:Value)(L:List Tk)(ok:Nat->Prop)(d:Nat)(g:Sp->Option (Out Int))(e:Ending)(f:lZ):Prop:=
 Kept B ok w f/\∃o,Ev L g o/\match o with
  | .ok a _=>if (tk L a.i).kind=6 then e= .returned (.agg #[U 0,U 0])/\Pst f B pb c L ok d a else e= .returned (.agg #[U 1,U ((tk L a.i).at':Int)])
  | .fail b p=>e= .returned (.agg #[U b,U p])/\b≠0
def X9d(w:lZ)(B pb:Nat)(c:Value)(L:List Tk)(ok:Nat->Prop)(d:Nat)(g:Sp->Option (Out Int))(e:Ending)(f:lZ):Prop:=
 Kept B ok w f/\∃o,Ev L g o/\match o with
  | .ok a _=>if (tk L a.i).kind=6 then (if 1200<a.N.length\/300<a.T.length then e= .returned (.agg #[U 2,U 0]) else e= .returned (.agg #[U 0,U 0])/\Pst f B pb c L ok d a) else e= .returned (.agg #[U 1,U ((tk L a.i).at':Int)])
  | .fail b p=>e= .returned (.agg #[U b,U p])/\b≠0
theorem J4{w a:lZ}{q o:Nat}{b:Array Value}{e:TypeId}{v:Value}(j:Kept B ok w a)(h:w.heap[q]? =some (.cells b e (0,0)))(f:e≠84/\e≠87/\e≠76)(k:b[o]? =some v):
 a.heap[q]? =some (.cells b e (0,0))/\a.cell? (J q o)=some v:=by
 have i:a.heap[q]? =some (.cells b e (0,0)):=by
  rw[j.block q (ltG h) (λx=> ?_)]
  · exact h
  · obtain⟨l,m,n,g,r⟩:=x.2.1;rw[h]at g;simp only[zQ,xW]at g;obtain⟨_,rfl,_⟩:=g;rcases r with r|r|r
    · exact f.1 r
    · exact f.2.1 r
    · exact f.2.2 r
 exact⟨i,by rw[cell_of_row a q o _ _ _ i];exact k⟩
theorem X8b(y:LOk L)(T:∀g,w.heap.size<=g->ok g)(P:B<=w.heap.size)(h:Pst w B pb c L ok d s)(z l:Nat)(F:w.heap[z]? =some (.cells #[.func (.func 31) #[pV pb] #[]] 60 (0,0)))
 (f:w.heap[l]? =some (.cells #[pV pb] 82 (0,0))):
 Calls prog 50 #[pV z,pV l] w (J0e w B pb c L ok d (λr=>r.typ d s)):=by
 have A:=K3b y (L.length - s.i) w ok d s (vQ _) T P h;have M:w.cell? (J z 0)=some (.func (.func 31) #[pV pb] #[]):=cr F rfl;have C:=O f;clear F f h;go_enter func50,ntmps50;go_wp2_with fail
 refine A.mono ?_;clear A;rintro e V ⟨k,o,E,G⟩;have q:=O k;have n:=O E;have X:V.cell? (J l 0)=some (pV pb):=(J4 k C.o (by decide) rfl).2;have K:=O (J4 k C.o (by decide) (o:=0) rfl).1;clear k E M;cases o with
 |fail W p=>
  obtain⟨rfl,R⟩:=G;exact⟨rfl,q.o,_,n.o,rfl,R⟩
 |ok i x=>
  obtain⟨rfl,f,S⟩:=G;have b:=J3b y f;have H:=λm (N:Pst m B pb c L ok d i)=>Z6 y N 1;have D:=O f;clear f S;by_cases j:(tk L i.i).kind=6
  · have v:decide ((tk L i.i).kind=6)=true:=by simp[j]
    rw[v]at b;go_wp2_with fail
    refine b.mono ?_;clear b;rintro e m ⟨rfl,a⟩;have u:=O (D.o.still a);have t:=O (q.o.trans (C7 a));clear a;go_wp2_with fail
    go_end0;exact⟨t.o,_,n.o,by simp[j];exact u.o⟩
  · have v:decide ((tk L i.i).kind=6)=false:=by simp[j]
    rw[v]at b;go_wp2_with fail
    refine b.mono ?_;clear b;rintro e m ⟨rfl,a⟩;have u:=O (D.o.still a);have t:=O (q.o.trans (C7 a));have Y:m.cell? (J l 0)=some (pV pb):=(J4 (C7 (B:=B) (ok:=ok) a) K.o (by decide) rfl).2;clear a;go_wp2_with fail
    refine(H _ u.o).mono ?_;rintro e Z ⟨rfl,a⟩;exact⟨rfl,t.o.trans (C7 a),_,n.o,by show (if (tk L i.i).kind=6 then _ else _);rw[yY j];rfl⟩
theorem J2b{j w e:lZ}{q:Nat}{a b:Value}{f:Array Value}(n:w.heap[q]? =some (.cells f 26 (0,0)))(h:Pst w B pb c L ok d s)(p:c.ownBlock≠some q)(r:Kept B ok j w)(o:j.heap.size<=q)(m:f.size=2)
 (i:I No ((w.setCell (J q 0) a).setCell (J q 1) b) e):e.cell? (J q 0)=some a/\e.cell? (J q 1)=some b/\Kept B ok j e/\Pst e B pb c L ok d s:=by
 have k:=heap_setCell_same w q 0 f _ a n;have l:=heap_setCell_same (w.setCell (J q 0) a) q 1 _ _ b k;have t:=(ltG l);have g:=i.block q t (λx=>x);rw[l]at g;refine⟨?_, ?_,((r.setOwn a o).setOwn b o).trans (C7 i),((h.setOwn a n p (by decide)).setOwn b k p (by decide)).still i⟩
 · rw[cell_of_row e q 0 _ _ _ g];simp[m]
 · rw[cell_of_row e q 1 _ _ _ g];simp[m]
theorem F4b(M:LOk L)(Y:∀g,w.heap.size<=g->ok g)(hB:B<=w.heap.size)(h:Pst w B pb c L ok d s)(v x:Nat)(u:w.heap[v]? =some (.cells #[.func (.func 31) #[pV pb] #[]] 60 (0,0)))
 (a:w.heap[x]? =some (.cells #[pV pb] 82 (0,0))):
 Calls prog 22 #[.func (.func 50) #[] #[pV v,pV x]] w (M1c w B pb c L ok d (λr=>r.typ d s)):=by
 have a6:=mkf;have W:=(ltG u);have X:=(ltG a);have y:=X8b M (w:=w.alloc (.cells #[U 0,U 0] 26)) (ok:=ok) (λg T=>Y g (by simp at T;omega)) (by simp;omega) (h.alloc _) v x (by rw[Below.heap_alloc _ _ _ W];exact u) (by rw[Below.heap_alloc _ _ _ X];exact a);have Z:c.ownBlock≠some w.heap.size:=h.tokLt (vQ _);clear u a h;go_enter_defers func22,ntmps22
 go_wp2_with fail
 refine y.mono ?_;clear y;rintro e G ⟨m,o,A,f⟩;obtain⟨l,C⟩:=J4 m (qY w _) (by decide) (o:=0) rfl;have D:=(J4 m (qY w _) (by decide) (o:=1) rfl).2;have hz:=(ltG l);have E:∀o,G.frozen? (J w.heap.size o)=false:=λo=>frozen_of_row G _ o _ _ l;have H:=O l;have t:=O (((Kept.refl B ok w).alloc _).trans m);have q:=O A;clear m A l;cases o with
 |fail z p=>
  obtain⟨rfl,S⟩:=f;unfold gu;refine leaves_cons (f:=41) (args:=#[pV w.heap.size]) (by simp) (by simp[go_sem]) ?_;refine(H1a w.heap.size z p 0 0 [] _ C D E).mono ?_;rintro e F a3 ⟨rfl,rfl,N,i,j⟩;have b:M1c w B pb c L ok d (λr=>r.typ d s) (.returned (.agg #[U z,U p])) a3:=⟨t.o.trans' N (λa2 V hx=>by omega),_,q.o,rfl,S⟩;simp[Leaves,settle,results,results22,go_sem,i,j];exact b
 |ok n a7=>
  by_cases k:(tk L n.i).kind=6
  · simp only[k,if_true]at f;obtain⟨rfl,a⟩:=f;have K:=O a;clear a;go_wp2_with fail
    refine leaves_cons (f:=41) (args:=#[pV w.heap.size]) (by simp) (by simp[go_sem]) ?_;refine(I6a w.heap.size _).mono ?_;rintro e F a5 ⟨rfl,rfl,R⟩;obtain⟨i,j,k6,p6⟩:=J2b H.o K.o Z t.o (vQ _) rfl R;have b:M1c w B pb c L ok d (λr=>r.typ d s) (.returned (.agg #[U 0,U 0])) a5:=⟨k6,_,q.o,by simp[k,p6]⟩;simp[Leaves,settle,results,results22,go_sem,i,j];exact b
  · simp only[k,if_false]at f;subst f;unfold gu;refine leaves_cons (f:=41) (args:=#[pV w.heap.size]) (by simp) (by simp[go_sem]) ?_;refine(H1a w.heap.size 1 ((tk L n.i).at':Int) 0 0 [] _ C D E).mono ?_;rintro e F a4 ⟨rfl,rfl,P,i,j⟩;have b:M1c w B pb c L ok d (λr=>r.typ d s) (.returned (.agg #[U 1,U ((tk L n.i).at':Int)])) a4:=⟨t.o.trans' P (λa2 V hx=>by omega),_,q.o,by simp[k]⟩;generalize ((tk L n.i).at':Int)=pa at *;simp[Leaves,settle,results,results22,go_sem,i,j];exact b
theorem I2a(w:lZ)(a b e:Obj):(((w.alloc a).alloc b).alloc e).heap[w.heap.size]? =some a/\(((w.alloc a).alloc b).alloc e).heap[w.heap.size+1]? =some b/\(((w.alloc a).alloc b).alloc e).heap[w.heap.size+2]? =some e:=by
 refine⟨?_, ?_, ?_⟩
 · rw[Below.heap_alloc _ _ _ (by simp;omega),Below.heap_alloc _ _ _ (by simp)];exact qY w a
 · rw[Below.heap_alloc _ _ _ (by simp)];have:=qY (w.alloc a) b;simpa using this
 · have:=qY ((w.alloc a).alloc b) e;simpa using this
theorem E2b(S:LOk L)(V:∀g,w.heap.size<=g->ok g)(hB:B<=w.heap.size)(h:Pst w B pb c L ok d s):
 Calls prog 26 #[pV pb,.func (.func 31) #[pV pb] #[]] w (X9d w B pb c L ok d (λr=>r.typ d s)):=by
 have a6:=mkf;obtain⟨u,D,E⟩:=I2a w (.cells #[pV pb] 82) (.cells #[.func (.func 31) #[pV pb] #[]] 60) (.cells #[U 0,U 0] 26);have A:=F4b S (ok:=ok) (λg T=>V g (by simp at T;omega)) (by simp;omega) (((h.alloc _).alloc _).alloc _) (w.heap.size+1) w.heap.size D u;have W:c.ownBlock≠some (w.heap.size+2):=h.tokLt (by omega);have z:=O u;have p:=O E;clear h u D E;go_enter func26,ntmps26;go_wp2_with fail
 refine A.mono ?_;clear A;rintro a3 b ⟨i,o,H,k⟩;have j:=O (((((Kept.refl B ok w).alloc _).alloc _).alloc _).trans i);have f:=O H;have a8:b.cell? (J w.heap.size 0)=some (pV pb):=(J4 i z.o (by decide) rfl).2;obtain⟨t,-⟩:=J4 i p.o (by decide) (o:=0) rfl;have m:b.cell? (J (w.heap.size+2) 0)=some (U 0):=(J4 i p.o (by decide) (o:=0) rfl).2;have n:b.cell? (J (w.heap.size+2) 1)=some (U 0):=(J4 i p.o (by decide) (o:=1) rfl).2;have l:=(ltG t);have rf:∀o,b.frozen? (J (w.heap.size+2) o)=false:=λo=>frozen_of_row b _ o _ _ t;have N:=O t;clear i H t z p;have a7:w.heap.size<b.heap.size:=by omega
 cases o with
 |fail F a2=>
  obtain⟨rfl,G⟩:=k;have a4:(F==0)=false:=by simp[G]
  go_wp2_with fail
  exact bodyPost_ret (v:= .agg #[U F,U a2]) (by simp[results,results26,go_sem,m,n,l]) rfl ⟨((j.o.setOwn _ (by omega)).setOwn _ (by omega)).alloc _,_,f.o,rfl,G⟩
 |ok a a9=>
  by_cases e:(tk L a.i).kind=6
  · simp only[e,if_true]at k;obtain⟨rfl,y⟩:=k;have P:=O y;obtain⟨nv,yv,nx,yx,q,K,M,_⟩:=y.blk;have a5:=(ltG q);obtain⟨Y,Z,rfl⟩:=B9 K;obtain⟨ya,yc,rfl⟩:=B9 M;have c3:b.cell? (J pb 3)=some (.slice Y a.N.length Z):=cr q rfl;have c4:b.cell? (J pb 4)=some (.slice ya a.T.length yc):=cr q rfl;clear y q K M;by_cases hN:(1200:Int)<(a.N.length:Int)
    · have v:1200<a.N.length:=by omega
      go_wp2_with fail
      exact bodyPost_ret (v:= .agg #[U 2,U 0]) (by simp[results,results26,go_sem,m,n,l]) rfl ⟨((j.o.setOwn _ (by omega)).setOwn _ (by omega)).alloc _,_,f.o,by simp[e,v]⟩
    · have v:¬1200<a.N.length:=by omega
      by_cases hT:(300:Int)<(a.T.length:Int)
      · have x:300<a.T.length:=by omega
        go_wp2_with fail
        exact bodyPost_ret (v:= .agg #[U 2,U 0]) (by simp[results,results26,go_sem,m,n,l]) rfl ⟨((j.o.setOwn _ (by omega)).setOwn _ (by omega)).alloc _,_,f.o,by simp[e,x]⟩
      · have x:¬300<a.T.length:=by omega
        go_wp2_with fail
        obtain⟨_,_,X,p6⟩:=J2b (a:=U 0) (b:=U 0) N.o P.o W j.o (by omega) rfl (I.alloc No _ (.cells #[U 0,U 0] 26));exact bodyPost_ret (v:= .agg #[U 0,U 0]) (by simp[results,results26,go_sem,m,n,l]) rfl ⟨X,_,f.o,by simp[e,v,x,p6]⟩
  · simp only[e,if_false]at k;subst k;have C:X9d w B pb c L ok d (λr=>r.typ d s) (.returned (.agg #[U 1,U ((tk L a.i).at':Int)])) (((b.setCell (J (w.heap.size+2) 0) (U 1)).setCell (J (w.heap.size+2) 1) (U ((tk L a.i).at':Int))).alloc (.cells #[U 1,U ((tk L a.i).at':Int)] 26)):=
     ⟨((j.o.setOwn _ (by omega)).setOwn _ (by omega)).alloc _,_,f.o,by simp[e]⟩
    have R:=O C;clear C e f;go_wp2_with fail
    exact bodyPost_ret (v:= .agg #[U 1,U ((tk L a.i).at':Int)]) (by simp[results,results26,go_sem,m,n,l]) rfl R.o
end
