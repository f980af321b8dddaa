/-
  A part of the proof.
-/
import Derived.Test.YteocidgdmjaffaaGreatDoorNodeA
import Derived.Test.YteocidgdmjaffaaGreatDoorWho
import Derived.Test.YteocidgdmjaffaaGreatDoorShelf
set_option maxHeartbeats 0
set_option linter.all false
set_option maxRecDepth 100000
namespace Go.Proofs.YteocidgdmjaffaaGreatDoor
open Go.Proofs.Tryz
open Go.RowKit
section
variable{w:E}{B pb:Nat}{c:Value}{L:List Tk}{ok:Nat->Prop}{d:Nat}{s:St}
theorem cU.cell{w}{B pb}{c}{L}{ok}{d}{s}(h:cU w B pb c L ok d s):
 ∃g a b e,c=.slice (some (J g 0)) L.length a/\L.length<=a/\a<=maxLen/\g<w.heap.size/\pb<w.heap.size/\w.cell? (J pb 0)=some (.slice (some (J g 0)) L.length a)/\w.cell? (J pb 1)=some (U s.i)/\w.cell? (J pb 2)=some (U d)/\
  w.cell? (J pb 3)=some b/\w.cell? (J pb 4)=some e/\(∀o,w.frozen? (J pb o)=false)/\∀j u,(rows L)[j]?=some u->w.cell? (J g j)=some u:=by
 obtain⟨p,a,rfl⟩:=B8 h.ke;obtain⟨g,rfl,_,m,i,k,l⟩:=D4 h.ke (by have:=h.at';omega);obtain⟨b,e,r,t,f,_⟩:=h.eo;have n:=(aI f);have q:=λo=>cell_of_row w pb o _ _ _ f;refine⟨g,a,b,e,rfl,i,k,m,n,by grind,by grind,by grind,by grind,by grind,λo=>?_,l⟩;grind[World.frozen?]
def Hp(v:cK L)(h:cU w B pb c L ok d s):
 Calls prog 109 #[pV pb] w λe l=>e=.returned (iC (tk L s.i))/\I No w l:=by
 obtain⟨g,q,F,H,rfl,y,a,z,A,r,t,_,_,_,u,b⟩:=h.cell;have f:=h.at';obtain⟨m,n,o⟩:=TR f b;generalize tk L s.i=j at*;obtain⟨D,k,G⟩:=j;simp only[iC]at m n o⊢;generalize (⟨k.toArray⟩:ByteArray)=p at*;generalize s.i=i at*;unfold maxLen at a;go_in;go_wp2;go_region;go_wp2;exact bodyPost_ret (by simp[results,results109,go_sem]) rfl ⟨rfl,(I.alloc _ _ _).trans (I.drewN _ _ 1) (λ_ _ x=>x)⟩
def zh(a:cK L)(h:cU w B pb c L ok d s):
 Calls prog 66 #[pV pb] w λe g=>e=.returned (.bool (decide ((tk L s.i).x=6)))/\I No w g:=by
 have H:=Hp a h;have i:=W5;generalize tk L s.i=f at*;obtain⟨j,l,k⟩:=f;simp only[iC]at H⊢;go_in;go_wp2_with fail;refine H.mono ?_;rintro e m ⟨rfl,b⟩;go_wp2;go_ret;exact⟨E7 (by rfl),b⟩
def Lf(w:E)(B pb:Nat)(c:Value)(L:List Tk)(ok:Nat->Prop)(d:Nat)(g:Sp->Option (Out Int))(e:Ending)(f:E):Prop:=
 Kept B ok w f/\∃o,Ev L g o/\match o with
  |.ok b x=>e=.returned (U x)/\(tk L b.i).x=6/\cU f B pb c L ok d b
  |.fail a p=>e=gu a p/\a≠0
def Vy{a}(b:(tk L s.i).x=6):Ev L (λr=>r.gk d s a) (.ok s a):=
 Ev.step (Ev.pure.eq λr=>by show (if (tk L s.i).x=6 then _ else _)=_;grind)
def xu{a}{o}(b:¬(tk L s.i).x=6)(h:Ev L (λr=>A8 (r.gd d s) λs x=>r.gk d s (a++[x])) o):Ev L (λr=>r.gk d s a) o:=
 Ev.step (h.eq λr=>by show (if (tk L s.i).x=6 then _ else _)=_;grind)
def Nt(H:cK L)(hS:∀m',bD B pb c L 68 (λd s r=>r.gd d s) m')(P:∀g,w.heap.size<=g->ok g)(W:B<=w.heap.size)(h:aF w B pb c L ok d s):
 Calls prog 38 #[pV pb] w (Lf w B pb c L ok d (jG d s)):=by
 have hs:=H.je;have a8:Hid (∀o,Ev L (λr=>A8 (r.gk d s []) λj l=>aD j (C.mk 26 0 0 0 l [] 0 (-1) 0)) o->Ev L (jG d s) o):=λo N=>N;obtain⟨i0,af,ai,aj,ak⟩:=info_parts Tryz.fm;have a6:=O h;go_in;go_wp2;go_loopw [3] (λam wr=>∃(a:bZ) (b:St) (n:Option Addr) (q:Nat),am=.slice n a.length q/\a.length<=b.i/\Hid (Kept B ok w wr)/\Hid (J1 s b)/\Hid (wr.ownsRow w.heap.size 3 1 (.slice n a.length q) a.length (C7 a))/\
  Hid (aF wr B pb c L (λg=>ok g/\some g≠Value.ownBlock (.slice n a.length q)) d b)/\Hid (∀o,Ev L (λr=>A8 (r.gk d b a) λj l=>aD j (C.mk 26 0 0 0 l [] 0 (-1) 0)) o->Ev L (jG d s) o)) (λ_ wr=>L.length-oO wr pb);case atStart=>exact⟨[],s,none,0,rfl,by simp,Kept.refl _ _ _,⟨vQ _,by omega,by omega,by omega⟩,kW _ _ _ _,a6.u.mono (λg i _=>⟨i,by simp[Value.ownBlock]⟩),a8.u⟩
 case round=>
  obtain⟨a,b,n,q,rfl,ao,KR,GR,OR,u,v⟩:=hrel;have HT:=Oq H u.u;have au:=u.u.jq;have ap:=u.u.fq;have ae:=GR.u;simp only[J1]at ae;generalize hq:decide ((tk L b.i).x=6)=al at*;have G:=O hq;go_wp2_with fail;refine HT.mono ?_;rintro e a5 ⟨rfl,M⟩;have k:=O (KR.u.trans (C9 M));have t:=O (A3 OR.u M (λ_ _ x=>x));have F:=O (u.u.y M);cases al
  .have m:¬(tk L b.i).x=6:=by simpa using G.u
   have PX:Hid (aF a5 B pb c L (λg=>ok g/\some g≠Value.ownBlock (.slice n a.length q)) d b):=F.u;have HM:=O (hS (L.length-b.i) a5 _ d b (vQ _) (λg i=>⟨P g (kQ k.u.size i),λhx=>by have:=(t.u.lt g hx.symm).2;omega⟩) (kQ W k.u.size) PX.u);go_wp2_with fail;refine HM.u.mono ?_;rintro e an ⟨hk,o,ac,a4⟩;have A:=O (k.u.trans (hk.mono λ_ h=>h.1));have D:=O (F8 t.u hk (by decide));have R:=O ac;cases o with
   |fail er p=>
    obtain⟨rfl,he⟩:=a4;exact⟨rfl,A.u,_,v.u _ (Ev.bad (xu m (Ev.bad R.u))),rfl,he⟩
   |ok z y=>
    obtain⟨rfl,hp,i,_⟩:=a4;have a7:=O hp;have aq:_/\_/\_/\_:=i;have ar:=hp.at';have VN:=O (λo (N:Ev L (λr=>A8 (r.gk d z (a++[y])) λj l=>aD j (C.mk 26 0 0 0 l [] 0 (-1) 0)) o)=>v.u o (by
     obtain⟨a9,h1⟩:=R.u;obtain⟨aa,h2⟩:=N;refine⟨a9+aa+1,λf hf=>?_⟩;obtain⟨g,rfl⟩:∃g,f=g+1:=⟨f-1,by omega⟩;have a1:(fV L g).gd d b=some (.ok z y):=h1 g (by omega);have a2:=h2 g (by omega);show A8 (if (tk L b.i).x=6 then some (.ok b a) else A8 ((fV L g).gd d b) λs x=>(fV L g).gk d s (a++[x])) _=some o;rw[zY m,a1];exact a2));have ah:=O (D.u.alloc (.cells #[U y] 3));go_wp2_with (at_builtin;refine wpList_append_own_at _ rfl _ _ 54 rfl w.heap.size 3 i0 (U 0) 1 8 underlying54 af ai aj ak rfl (by decide) _ _ _ rfl ah.u (J an.heap.size 0) 1 1 [U y] rfl rfl ?c1 ?c2 ?c3 ?c4 ?c5 ?_);case c1=>grind[cell_one_new]
    case c2=>intro av hu;simp at hu;obtain rfl:=hu;rfl
    case c3=>grind[maxLen]
    case c4=>omega
    case c5=>have:=A.u.size;simp;omega
    intro v' aw a3 Z _ ab;obtain⟨V,c2,ag⟩:=B8 a3;rw[ag]at a3 ab⊢;have PG:=O ((a7.u.alloc (.cells #[U y] 3)).grown (v':=.slice V (a.length+1) c2) (D.u.alloc _) (.inl rfl) Z (by simp_all));have KG:=O ((A.u.alloc (.cells #[U y] 3)).grown (D.u.alloc _) Z);go_wp2;go_roundw;case rel=>
     refine⟨a++[y],z,V,c2,by simp,by grind,KG.u,(show J1 s z from by grind[J1]),?_,?_,VN.u⟩<;>simp_all[World.ownsRow,Q9]
    case measure=>
     have h3:=PG.u.jq;omega
  .have m:(tk L b.i).x=6:=by simpa using G.u
   have T:=O (F.u.mono (ok':=ok) (λg i _=>i.1));clear F;have S:=O (OK H T.u (C.mk 26 0 0 0 a [] 0 (-1) 0) 0 n a.length q ⟨_,rfl,C8 t.u (wQ _),λg i=>P g (A9 t.u g i).1⟩ rfl (by omega) (kQ W k.u.size) (λg i=>P g (kQ k.u.size i)));have EV:=O (v.u _ (Ev.bind (k:=λ_ j l=>aD j (C.mk 26 0 0 0 l [] 0 (-1) 0)) (Vy m) Ev.pure));have Q3:=O m;clear T v t m G;go_wp2_with fail;refine S.u.mono ?_;rintro e ax ⟨rfl,k9,p9⟩;have K9:=O (k.u.trans k9);have P9:=O p9;clear k9 p9 S;go_wp2_with fail;go_ret;exact⟨K9.u,_,EV.u,rfl,Q3.u,P9.u⟩
def Zg(w:E)(B pb:Nat)(c:Value)(L:List Tk)(ok:Nat->Prop)(d:Nat)(g:Sp->Option (Out Int))(e:Ending)(f:E):Prop:=
 Kept B ok w f/\∃o,Ev L g o/\match o with
  |.ok a _=>if (tk L a.i).x=6 then e=rT/\cU f B pb c L ok d a else e=gu 1 ((tk L a.i).at')
  |.fail b p=>e=gu b p/\b≠0
def AU(w:E)(B pb:Nat)(c:Value)(L:List Tk)(ok:Nat->Prop)(d:Nat)(g:Sp->Option (Out Int))(e:Ending)(f:E):Prop:=
 Kept B ok w f/\∃o,Ev L g o/\match o with
  |.ok a _=>if (tk L a.i).x=6 then e=.returned (.agg #[U 0,U 0])/\cU f B pb c L ok d a else e=.returned (.agg #[U 1,U ((tk L a.i).at')])
  |.fail b p=>e=.returned (.agg #[U b,U p])/\b≠0
def WN(w:E)(B pb:Nat)(c:Value)(L:List Tk)(ok:Nat->Prop)(d:Nat)(g:Sp->Option (Out Int))(e:Ending)(f:E):Prop:=
 Kept B ok w f/\∃o,Ev L g o/\match o with
  |.ok a _=>if (tk L a.i).x=6 then (if 1200<a.N.length\/300<a.T.length then e=.returned (.agg #[U 2,U 0]) else e=.returned (.agg #[U 0,U 0])/\cU f B pb c L ok d a) else e=.returned (.agg #[U 1,U ((tk L a.i).at')])
  |.fail b p=>e=.returned (.agg #[U b,U p])/\b≠0
def Ss(m:cK L)(F:∀P,bD B pb c L 68 (λd s r=>r.gd d s) P)(N:∀g,w.heap.size<=g->ok g)(D:B<=w.heap.size)(h:aF w B pb c L ok d s)(b f)(M:w.heap[b]?=some (.cells #[.func (.func 38) #[pV pb] #[]] 105 (0,0)))
 (a:w.heap[f]?=some (.cells #[pV pb] 101 (0,0))):
 Calls prog 65 #[pV b,pV f] w (Zg w B pb c L ok d (jG d s)):=by
 have u:=Nt m F N D h;have V:w.cell? (J b 0)=some (.func (.func 38) #[pV pb] #[]):=cr M rfl;have v:=O a;go_in;go_wp2_with fail;refine u.mono ?_;rintro e S ⟨q,o,H,t⟩;have k:=O q;have i:=O H;have W:S.cell? (J f 0)=some (pV pb):=(Y3 q v.u (by decide) rfl).2;cases o with
 |fail T p=>
  obtain⟨rfl,G⟩:=t;exact⟨rfl,k.u,_,i.u,rfl,G⟩
 |ok R a2=>
  obtain⟨rfl,l,a⟩:=t;have j:=zh m a;have y:=O a;have A:decide ((tk L R.i).x=6)=true:=by simp[l]
  rw[A]at j;go_wp2_with fail;refine j.mono ?_;rintro e Z ⟨rfl,n⟩;have z:=O (y.u.y n);have x:=O (k.u.trans (C9 n));go_wp2;go_end0;exact⟨x.u,_,i.u,by simp[l];exact z.u⟩
def MV{j w e}{q}{a b}{f}(m:w.heap[q]?=some (.cells f 26 (0,0)))(h:cU w B pb c L ok d s)(o:c.ownBlock≠some q)(p:Kept B ok j w)(n:j.heap.size<=q)(t:f.size=2)
 (i:I No ((w.setCell (J q 0) a).setCell (J q 1) b) e):e.cell? (J q 0)=some a/\e.cell? (J q 1)=some b/\Kept B ok j e/\cU e B pb c L ok d s:=by
 have k:=heap_setCell_same w q 0 f _ a m;have l:=heap_setCell_same (w.setCell (J q 0) a) q 1 _ _ b k;have r:=(aI l);have g:=i.block q r (λx=>x);rw[l]at g;refine⟨?_,?_,((p.fp a n).fp b n).trans (C9 i),((h.fp a m o (by decide)).fp b k o (by decide)).y i⟩
 .rw[cell_of_row e q 0 _ _ _ g];grind
 .rw[cell_of_row e q 1 _ _ _ g];grind
def Bq(H:cK L)(M:∀m',bD B pb c L 68 (λd s a4=>a4.gd d s) m')(Z:∀g,w.heap.size<=g->ok g)(hB:B<=w.heap.size)(h:aF w B pb c L ok d s)(n q)(hf:w.heap[n]?=some (.cells #[.func (.func 38) #[pV pb] #[]] 105 (0,0)))
 (v:w.heap[q]?=some (.cells #[pV pb] 101 (0,0))):
 Calls prog 26 #[.func (.func 65) #[] #[pV n,pV q]] w (AU w B pb c L ok d (jG d s)):=by
 have F:=Ss H M (w:=w.alloc (.cells #[U 0,U 0] 26)) (λg V=>Z g (by simp at V;omega)) (by simp;omega) (h.alloc _) n q (by grind[Below.heap_alloc]) (by grind[Below.heap_alloc]);have a2:=h.j5 (vQ _);go_enter_defers func26,ntmps26;go_wp2_with fail;refine F.mono ?_;rintro e a5 ⟨m,o,T,a⟩;obtain⟨l,x⟩:=Y3 m (yY w _) (by decide) (o:=0) rfl;have y:=(Y3 m (yY w _) (by decide) (o:=1) rfl).2;have hz:=(aI l);have z:=λo=>frozen_of_row a5 _ o _ _ l;have D:=O l;have k:=O (((Kept.refl B ok w).alloc _).trans m);have j:=O T;cases o with
 |fail t p=>
  obtain⟨rfl,S⟩:=a;unfold gu;refine leaves_cons (f:=42) (args:=#[pV w.heap.size]) (by simp) (by simp[go_sem]) ?_;refine(AF w.heap.size t p 0 0 [] _ x y z).mono ?_;rintro e A a6 ⟨rfl,rfl,N,b,f⟩;have r:AU w B pb c L ok d (jG d s) (.returned (.agg #[U t,U p])) a6:=⟨k.u.trans' N (λa3 W hx=>by omega),_,j.u,rfl,S⟩;simp[Leaves,settle,results,results26,go_sem,b,f];omega
 |ok i a9=>
  by_cases u:(tk L i.i).x=6
  .simp only[u,if_true]at a;obtain⟨rfl,v⟩:=a;have G:=O v;go_wp2;refine leaves_cons (f:=42) (args:=#[pV w.heap.size]) (by simp) (by simp[go_sem]) ?_;refine(GS w.heap.size _).mono ?_;rintro e A a8 ⟨rfl,rfl,R⟩;obtain⟨b,f,k6,p6⟩:=MV D.u G.u a2 k.u (vQ _) rfl R;have r:AU w B pb c L ok d (jG d s) (.returned (.agg #[U 0,U 0])) a8:=⟨k6,_,j.u,by grind⟩;simp[Leaves,settle,results,results26,go_sem,b,f];omega
  .simp only[u,if_false]at a;subst a;unfold gu;refine leaves_cons (f:=42) (args:=#[pV w.heap.size]) (by simp) (by simp[go_sem]) ?_;refine(AF w.heap.size 1 ((tk L i.i).at':Int) 0 0 [] _ x y z).mono ?_;rintro e A a7 ⟨rfl,rfl,P,b,f⟩;have r:AU w B pb c L ok d (jG d s) (.returned (.agg #[U 1,U ((tk L i.i).at':Int)])) a7:=⟨k.u.trans' P (λa3 W hx=>by omega),_,j.u,by grind⟩;generalize ((tk L i.i).at':Int)=pa at*;simp[Leaves,settle,results,results26,go_sem,b,f];omega
def Hf(T:cK L)(W:∀m',bD B pb c L 68 (λd s a4=>a4.gd d s) m')(a2:∀g,w.heap.size<=g->ok g)(hB:B<=w.heap.size)(h:aF w B pb c L ok d s):
 Calls prog 37 #[pV pb,.func (.func 38) #[pV pb] #[]] w (WN w B pb c L ok d (jG d s)):=by
 obtain⟨y,R,S⟩:=GZ w (.cells #[pV pb] 101) (.cells #[.func (.func 38) #[pV pb] #[]] 105) (.cells #[U 0,U 0] 26);have M:=Bq T W (λg hg=>a2 g (by grind)) (by grind) (((h.alloc _).alloc _).alloc _) (w.heap.size+1) w.heap.size R y;have a3:c.ownBlock≠some (w.heap.size+2):=h.j5 (by omega);have v:=O y;have n:=O S;go_in;go_wp2_with fail;refine M.mono ?_;rintro a5 b ⟨f,o,D,j⟩;have i:=O (((((Kept.refl B ok w).alloc _).alloc _).alloc _).trans f);have e:=O D;have a9:b.cell? (J w.heap.size 0)=some (pV pb):=(Y3 f v.u (by decide) rfl).2;obtain⟨r,-⟩:=Y3 f n.u (by decide) (o:=0) rfl;have l:=(Y3 f n.u (by decide) (o:=0) rfl).2;have m:b.cell? (J (w.heap.size+2) 1)=some (U 0):=(Y3 f n.u (by decide) (o:=1) rfl).2;have k:=(aI r);have rf:=λo=>frozen_of_row b _ o _ _ r;have H:=O r;clear f D r v n;have a8:w.heap.size<b.heap.size:=by omega
 cases o with
 |fail z p=>
  obtain⟨rfl,A⟩:=j;have a6:(z==0)=false:=by simp[A]
  go_wp2_with fail;exact bodyPost_ret (v:=.agg #[U z,U p]) (by simp[results,results37,go_sem,l,m,k]) rfl ⟨((i.u.fp _ (by omega)).fp _ (by omega)).alloc _,_,e.u,rfl,A⟩
 |ok a aa=>
  by_cases t:(tk L a.i).x=6
  .simp only[t,if_true]at j;obtain⟨rfl,u⟩:=j;have N:=O u;obtain⟨nv,yv,nx,yx,q,F,G,_⟩:=u.eo;have a7:=(aI q);obtain⟨na,nc,rfl⟩:=B8 F;obtain⟨ya,yc,rfl⟩:=B8 G;have c3:b.cell? (J pb 3)=some (.slice na a.N.length nc):=cr q rfl;have c4:b.cell? (J pb 4)=some (.slice ya a.T.length yc):=cr q rfl;clear u q F G;by_cases hN:(1200:Int)<(a.N.length:Int)
   .have V:1200<a.N.length:=by omega
    go_wp2_with fail;exact bodyPost_ret (v:=.agg #[U 2,U 0]) (by simp[results,results37,go_sem,l,m,k]) rfl ⟨((i.u.fp _ (by omega)).fp _ (by omega)).alloc _,_,e.u,by grind⟩
   .have V:¬1200<a.N.length:=by omega
    by_cases hT:(300:Int)<(a.T.length:Int)
    .have Z:300<a.T.length:=by omega
     go_wp2_with fail;exact bodyPost_ret (v:=.agg #[U 2,U 0]) (by simp[results,results37,go_sem,l,m,k]) rfl ⟨((i.u.fp _ (by omega)).fp _ (by omega)).alloc _,_,e.u,by grind⟩
    .have Z:¬300<a.T.length:=by omega
     go_wp2_with fail;obtain⟨_,_,k6,p6⟩:=MV (a:=U 0) (b:=U 0) H.u N.u a3 i.u (by omega) rfl (I.alloc No _ (.cells #[U 0,U 0] 26));exact bodyPost_ret (v:=.agg #[U 0,U 0]) (by simp[results,results37,go_sem,l,m,k]) rfl ⟨k6,_,e.u,by grind⟩
  .simp only[t,if_false]at j;subst j;have x:WN w B pb c L ok d (jG d s) (.returned (.agg #[U 1,U ((tk L a.i).at':Int)])) (((b.setCell (J (w.heap.size+2) 0) (U 1)).setCell (J (w.heap.size+2) 1) (U ((tk L a.i).at':Int))).alloc (.cells #[U 1,U ((tk L a.i).at':Int)] 26)):=
    ⟨((i.u.fp _ (by omega)).fp _ (by omega)).alloc _,_,e.u,by grind⟩;have P:=O x;clear x t e;go_wp2_with fail;exact bodyPost_ret (v:=.agg #[U 1,U ((tk L a.i).at':Int)]) (by simp[results,results37,go_sem,l,m,k]) rfl P.u
end
set_option linter.unusedSimpArgs false
section
variable{B a:Nat}{b:Value}{L:List Tk}
def tH{w f g}{c}{d}{s}{i j}{e}(m:Kept B c w f)(h:U9 f B a b L c d s.nx i e g)(n:∀o,Ev L i o->Ev L j o):U9 w B a b L c d s j e g:=by
 obtain⟨k,o,l,p⟩:=h;refine⟨m.trans k,o,n o l,?_⟩;grind[zJ]
def yR{w f g}{c}{d}{s}{i j}{e}(m:Kept B c w f)(h:U9 f B a b L c d s i e g)(n:∀o,Ev L i o->Ev L j o):U9 w B a b L c d s j e g:=by
 obtain⟨k,o,l,p⟩:=h;refine⟨m.trans k,o,n o l,?_⟩;omega
def M3{w g}{f}{d}{s}{i}{e}(h:U9 w B a b L f d s i e g):(∃x,e=.returned (U x))\/∃c p,e=gu c p:=by
 obtain⟨k,o,j,l⟩:=h;grind
def Jx(t:cK L)(hX:∀(d) (s s') (x),Ev L (λr=>r.expr d s) (.ok s' x)->s.N.length<=x)(m)(G:∀i,i<=m->bD B a b L 195 (λd s r=>r.expr d s) i)(hK:∀i,i<m->bD B a b L 197 (λd s r=>r.block d s) i):bD B a b L 114 (λd s r=>r.any d s) m:=by
 intro aa j d s hm M F a3;have hi:=a3.at';have HA:=O (tY t a3);have a8:Hid (∀a2,I No aa a2->aF a2 B a b L j d s):=λa2 ha=>a3.y ha;have V:Hid (∀o φ,Ev L φ o->(∀r,(step L r).any d s=φ r)->Ev L (λr=>r.any d s) o):=λo φ q he=>Ev.step (q.eq (λr=>he r));generalize a9:((tk L s.i).at':Int)=R at*;have A:=O a9;go_in;go_wp2_with fail;refine HA.u.mono ?_;rintro e w0 ⟨rfl,hc⟩;have c:=O (C9 (B:=B) (ok:=j) hc);have P:=O (a8.u w0 hc);have l:=F9 t P.u [108,101,116];generalize z:aJ L s.i [[108,101,116]]=q0 at l;have D:=O z;have u:=O l;go_wp2_with fail;refine u.u.mono ?_;rintro e a4 ⟨rfl,y,h⟩;replace c:=O (c.u.trans y);cases q0;case true=>
  have P:Hid (aF a4 B a b L j d s.nx):=h;have n:=O (Rt t (L.length-s.nx.i) (λi H=>G i (by grind[St.nx])) R a4 j d s.nx (vQ _) (λg w=>M g (kQ c.u.size w)) (kQ F c.u.size) P.u);go_wp2_with fail;refine n.u.mono ?_;rintro e T f;have k:=O (tH c.u f (λo q=>V.u o _ q (λr=>by simp only[step,D.u,wZ,if_false,if_true,A.u];rfl)));have v:=M3 f;obtain⟨x,rfl⟩|⟨S,p,rfl⟩:=v
  .go_wp2;go_ret;exact k.u
  .exact⟨rfl,k.u⟩
 have P:Hid (aF a4 B a b L j d s):=h;have l:=F9 t P.u [112,114,105,110,116];generalize z:aJ L s.i [[112,114,105,110,116]]=q1 at l;have N:=O z;have u:=O l;go_wp2_with fail;refine u.u.mono ?_;rintro e a5 ⟨rfl,y,h⟩;replace c:=O (c.u.trans y);cases q1;case true=>
  have P:Hid (aF a5 B a b L j d s.nx):=h;have n:=O (ZA t (L.length-s.nx.i) (λi H=>G i (by grind[St.nx])) 21 R a5 j d s.nx (vQ _) (λg w=>M g (kQ c.u.size w)) (kQ F c.u.size) P.u);go_wp2_with fail;refine n.u.mono ?_;rintro e T f;have k:=O (tH c.u f (λo q=>V.u o _ q (λr=>by simp only[step,D.u,N.u,wZ,if_false,if_true,A.u];try rfl)));have v:=M3 f;obtain⟨x,rfl⟩|⟨S,p,rfl⟩:=v
  .go_wp2;go_ret;exact k.u
  .exact⟨rfl,k.u⟩
 have P:Hid (aF a5 B a b L j d s):=h;have l:=F9 t P.u [114,101,116,117,114,110];generalize z:aJ L s.i [[114,101,116,117,114,110]]=q2 at l;have W:=O z;have u:=O l;go_wp2_with fail;refine u.u.mono ?_;rintro e a6 ⟨rfl,y,h⟩;replace c:=O (c.u.trans y);cases q2;case true=>
  have P:Hid (aF a6 B a b L j d s.nx):=h;have n:=O (ZA t (L.length-s.nx.i) (λi H=>G i (by grind[St.nx])) 24 R a6 j d s.nx (vQ _) (λg w=>M g (kQ c.u.size w)) (kQ F c.u.size) P.u);go_wp2_with fail;refine n.u.mono ?_;rintro e T f;have k:=O (tH c.u f (λo q=>V.u o _ q (λr=>by simp only[step,D.u,N.u,W.u,wZ,if_false,if_true,A.u];try rfl)));have v:=M3 f;clear f n c V;obtain⟨x,rfl⟩|⟨S,p,rfl⟩:=v
  .go_wp2_with fail;go_ret;exact k.u
  .exact⟨rfl,k.u⟩
 have P:Hid (aF a6 B a b L j d s):=h;clear h;have l:=F9 t P.u [105,102];generalize z:aJ L s.i [[105,102]]=q3 at l;have Q3:=O z;have u:=O l;clear z l P;go_wp2_with fail;refine u.u.mono ?_;rintro e a7 ⟨rfl,y,h⟩;replace c:=O (c.u.trans y);clear y u;cases q3;case true=>
  have P:Hid (aF a7 B a b L j d s.nx):=h;clear h;have n:=O (vz t (L.length-s.nx.i) (λi H=>G i (by grind[St.nx])) (λi H=>hK i (by grind[St.nx])) R a7 j d s.nx (vQ _) (λg w=>M g (kQ c.u.size w)) (kQ F c.u.size) P.u);clear P;go_wp2_with fail;refine n.u.mono ?_;rintro e T f;have k:=O (tH c.u f (λo q=>V.u o _ q (λr=>by simp only[step,D.u,N.u,W.u,Q3.u,QA,wZ,if_false,if_true,A.u];try rfl)));have v:=M3 f;clear f n c V;obtain⟨x,rfl⟩|⟨S,p,rfl⟩:=v
  .go_wp2_with fail;go_ret;exact k.u
  .exact⟨rfl,k.u⟩
 have P:Hid (aF a7 B a b L j d s):=h;clear h;have l:=F9 t P.u [119,104,105,108,101];generalize z:aJ L s.i [[119,104,105,108,101]]=q4 at l;have Q4:=O z;have u:=O l;clear z l P;go_wp2_with fail;refine u.u.mono ?_;rintro e Z ⟨rfl,y,h⟩;replace c:=O (c.u.trans y);clear y u;cases q4;case true=>
  have P:Hid (aF Z B a b L j d s.nx):=h;clear h;have n:=O (Cq t (L.length-s.nx.i) (λi H=>G i (by grind[St.nx])) (λi H=>hK i (by grind[St.nx])) R Z j d s.nx (vQ _) (λg w=>M g (kQ c.u.size w)) (kQ F c.u.size) P.u);clear P;go_wp2_with fail;refine n.u.mono ?_;rintro e T f;have k:=O (tH c.u f (λo q=>V.u o _ q (λr=>by simp only[step,D.u,N.u,W.u,Q3.u,Q4.u,QA,wZ,if_false,if_true,A.u];try rfl)));have v:=M3 f;clear f n c V;obtain⟨x,rfl⟩|⟨S,p,rfl⟩:=v
  .go_wp2_with fail;go_ret;exact k.u
  .exact⟨rfl,k.u⟩
 have P:Hid (aF Z B a b L j d s):=h;clear h;have n:=O (Jk t hX m G Z j d s hm (λg w=>M g (kQ c.u.size w)) (kQ F c.u.size) P.u);clear P;go_wp2_with fail;refine n.u.mono ?_;rintro e T f;have k:=O (yR c.u f (λo q=>V.u o _ q (λr=>by simp only[step,D.u,N.u,W.u,Q3.u,Q4.u,wZ,if_false,if_true,A.u];rfl)));have v:=M3 f;clear f n c V;obtain⟨x,rfl⟩|⟨S,p,rfl⟩:=v
 .go_wp2_with fail;go_ret;exact k.u
 .exact⟨rfl,k.u⟩
def zj(q:cK L)(m)(M:bD B a b L 114 (λd s r=>r.any d s) m):bD B a b L 68 (λd s r=>r.gd d s) m:=by
 intro w Z d s T W H h;have F:=O (pM q (h.alloc (.cells (mT [[108,101,116],[112,114,105,110,116],[114,101,116,117,114,110],[105,102],[119,104,105,108,101]]) 9)) w.heap.size 5 [[108,101,116],[112,114,105,110,116],[114,101,116,117,114,110],[105,102],[119,104,105,108,101]] (X8 _ _ _) (by decide));have D:Hid (∀c,I No w c->Calls prog 112 #[pV a] c λe w'=>e=.returned (.bool (jR L s.i))/\I No c w'):=λc N=>LY q (h.y N);have y:Hid (∀c,I No w c->∀f,Calls prog 113 #[pV a,.bool f,.func (.func 114) #[pV a] #[]] c (U9 c B a b L Z d s (λr=>aQ L f d s (λd s=>r.any d s)))):=λc i f=>KU 114 (λ_ _=>by rfl) q m _ M f T (λg S=>W g (kQ i.size S)) (kQ H i.size) (h.y i);have V:Hid (∀f o,f=KV L s.i->Ev L (λr=>aQ L f d s (λd s=>r.any d s)) o->Ev L (λr=>r.gd d s) o):=λf o P k=>Ev.step (k.eq (λr=>by rw[P];rfl));have R:KV L s.i=(aJ L s.i [[108,101,116],[112,114,105,110,116],[114,101,116,117,114,110],[105,102],[119,104,105,108,101]]||jR L s.i):=rfl;rw[R]at V;generalize aJ L s.i [[108,101,116],[112,114,105,110,116],[114,101,116,117,114,110],[105,102],[119,104,105,108,101]]=a2 at*;generalize jR L s.i=z at*;go_in;go_wp2_with fail;refine F.u.mono ?_;rintro e u ⟨rfl,i⟩;have n:Hid (I No w u):=(I.alloc No _ _).trans i (λ_ _ x=>x);cases a2
 .go_wp2_with fail;refine(D.u u n.u).mono ?_;rintro e A ⟨rfl,i⟩;have v:Hid (I No w A):=n.u.trans i (λ_ _ x=>x);go_wp2_with fail;refine(y.u A v.u z).mono ?_;rintro e a3 l;have j:=O (yR (C9 v.u) l (λo k=>V.u z o (by simp) k));have t:=M3 l;obtain⟨x,rfl⟩|⟨G,p,rfl⟩:=t
  .go_wp2;go_ret;exact j.u
  .exact⟨rfl,j.u⟩
 .go_wp2_with fail;refine(y.u u n.u true).mono ?_;rintro e a3 l;have j:=O (yR (C9 n.u) l (λo k=>V.u true o (by simp) k));have t:=M3 l;obtain⟨x,rfl⟩|⟨G,p,rfl⟩:=t
  .go_wp2;go_ret;exact j.u
  .exact⟨rfl,j.u⟩
end
def I.bytes(S)(w)(e)(t):I S w (Lib.bytesWorld w e t):=by
 exact⟨rfl,rfl,rfl,by grind[Lib.bytesWorld_size],λk a _=>Lib.bytesWorld_at_old w e t k a⟩
section
variable{B a:Nat}{b:Value}{L:List Tk}
def Lq(m:cK L)(D:AK L)(c)(w:E)(j:Nat->Prop)(d)(s:St)(z:(tk L s.i).x=3)(N:∀g,w.heap.size<=g->j g)(A:B<=w.heap.size)(h:aF w B a b L j d s):
 Calls prog 289 #[pV a,U c] w (U9 w B a b L j d s (λ_=>aD s.nx ⟨1,0,0,0,[],[],nA (tk L s.i).text,-1,c⟩)):=by
 have Z:=h.fq;have q:=O (xV m h (by omega));have M:=D s.i z;have W:=@tJ;have p:=O (λy=>Tryz.strconv_Atoi ⟨(tk L s.i).text.toArray⟩ (nA (tk L s.i).text) (by have:=M.2.1;grind[ByteArray.size]) (by grind[vk]) y);generalize nA (tk L s.i).text=k at*;generalize tk L s.i=a2 at*;go_in;go_wp2_with fail;refine q.u.mono ?_;rintro e f ⟨rfl,H,P⟩;have r:=O H;have v:=O P;simp only[iC];go_wp2_with fail;refine(p.u f).mono ?_;rintro e V ⟨rfl,t,rfl⟩;have i:=O (r.u.trans (C9 (I.bytes _ f 5 t)));have l:=O (v.u.y (I.bytes _ f 5 t));generalize Lib.bytesWorld f 5 t=V at*;have G:=l.u.at';simp only[St.nx]at G;have o:=O (L9 m l.u (C.mk 1 0 0 0 [] [] k (-1) c) 0 none 0 0 ⟨_,rfl,kW _ _ _ _,by simp[Value.ownBlock]⟩ rfl (by grind[St.nx]) (kQ A i.u.size) (λg F=>N g (kQ i.u.size F)));have n:=O (show D9 s ⟨s.nx.i,s.nx.N++[C.mk 1 0 0 0 [] [] k (-1) c],s.nx.T⟩ by
  grind[D9,St.nx,qQ,jQ,xQ]);have R:0<=(s.nx.N.length:Int)/\s.nx.N.length<((s.nx.N++[C.mk 1 0 0 0 [] [] k (-1) c]).length:Int):=by simp;omega
 go_wp2_with fail;refine o.u.mono ?_;rintro e a3 ⟨rfl,S,T⟩;have u:=O (i.u.trans S);have x:=O T;go_wp2;go_ret;exact F6 u.u Ev.pure x.u n.u R
end
set_option linter.unusedSimpArgs false
def AA(B b:Nat)(e:Value)(L:List Tk)(f:Nat)(h:Int->Nat->St->Sp->Option (Out Int))(m:Nat):Prop:=
 ∀(c) (w) (a) (d) (s),L.length-s.i<=m->(∀g,w.heap.size<=g->a g)->B<=w.heap.size->aF w B b e L a d s->
  Calls prog f #[pV b,U c] w (U9 w B b e L a d s (h c d s))
def vR(L:List Tk)(a:Int)(d:Nat)(s:St)(r:Sp):Option (Out Int):=A8 (aB L s [40]) λb _=>A8 (r.M .par [41] d b [] []) λc l=>A8 (aY L r d c) λe t=>A8 (r.block d e) λf x=>aD f ⟨6,x,0,0,l,[],0,t,a⟩
def vY(a:Int)(d:Nat)(s:St)(r:Sp):Option (Out Int):=A8 (r.M .obj [125] d s [] []) λb l=>aD b ⟨10,0,0,0,l,[],0,-1,a⟩
section
variable{B a:Nat}{b:Value}{L:List Tk}
def Ge(p:cK L)(hN:AK L)(a6)(hE:∀Z,Z<a6->bD B a b L 195 (λd s r=>r.expr d s) Z)(hF:∀Z,Z<a6->AA B a b L 290 (vR L) Z)(hO:∀Z,Z<a6->AA B a b L 291 vY Z):bD B a b L 278 (λd s r=>r.simple d s) a6:=by
 intro ab k d s hm z T a5;have ap:=a5.fq;have HA:=O (tY p a5);have ae:Hid (∀m,I No ab m->aF m B a b L k d s):=λm ha=>a5.y ha;have FT:Hid (∀m,I No ab m->Calls prog 109 #[pV a] m λe w'=>e=.returned (iC (tk L s.i))/\I No m w'):=λm ha=>T8 p (a5.y ha);have TK:Hid (∀m,(tk L s.i).x≠6->aF m B a b L k d s->Calls prog 222 #[pV a] m λe w'=>e=.returned (iC (tk L s.i))/\Kept B k m w'/\aF w' B a b L k d s.nx):=λm i ha=>xV p ha i;have NB:Hid (∀h m,(tk L s.i).x=3->(∀g,m.heap.size<=g->k g)->B<=m.heap.size->aF m B a b L k d s->Calls prog 289 #[pV a,U h] m (U9 m B a b L k d s (λ_=>aD s.nx ⟨1,0,0,0,[],[],nA (tk L s.i).text,-1,h⟩))):=λh m S y hb ha=>Lq p hN h m k d s S y hb ha;have V:Hid (∀o φ,Ev L φ o->(∀r,(step L r).simple d s=φ r)->Ev L (λr=>r.simple d s) o):=λo φ y he=>Ev.step (y.eq (λr=>he r));have an:=W5;have ao:=tJ;clear a5;generalize af:((tk L s.i).at':Int)=h at*;have A:=O af;clear af;generalize ah:(tk L s.i).x=kd at*;have H:=O ah;clear ah;generalize ai:(tk L s.i).text=tx at*;have R:=O ai;clear ai;have aj:iC (tk L s.i)=.agg #[U kd,.string ⟨tx.toArray⟩,U h]:=by rw[iC,H.u,R.u,A.u]
 rw[aj]at FT TK;clear aj;go_in;go_wp2_with fail;refine HA.u.mono ?_;rintro e wa ⟨rfl,hc⟩;have C1:=O hc;clear hc HA;go_wp2_with fail;refine(FT.u wa C1.u).mono ?_;rintro e w0 ⟨rfl,hc⟩;have C2:Hid (I No ab w0):=C1.u.trans hc (λ_ _ a7=>a7);have c:=O (C9 (B:=B) (ok:=k) C2.u);have P:=O (ae.u w0 C2.u);clear hc FT ae C1 C2;by_cases S:kd=3;case pos=>
  subst S;have n:=O (NB.u h w0 rfl (λg j=>z g (kQ c.u.size j)) (kQ T c.u.size) P.u);clear P NB;go_wp2_with fail;refine n.u.mono ?_;rintro e a2 q;have N:=O (yR c.u q (λo y=>V.u o _ y (λr=>by simp only[step,H.u,R.u,A.u,wY,wZ,if_false,if_true];try rfl)));have a4:=M3 q;clear q n c V;obtain⟨a7,rfl⟩|⟨er,a8,rfl⟩:=a4
  .go_wp2_with fail;go_ret;exact N.u
  .exact⟨rfl,N.u⟩
 clear NB;have b3:(kd==3)=false:=by simp[S]
 by_cases h4:kd=4;case pos=>
  subst h4;have n:=O (TK.u w0 (by decide) P.u);clear P TK;go_wp2_with fail;refine n.u.mono ?_;rintro e a9 ⟨rfl,i,f⟩;replace c:=O (c.u.trans i);have P:=O f;clear i f n;have hj:=P.u.at';have u:=O (L9 p P.u (C.mk 2 0 0 0 [] tx 0 (-1) h) 0 none 0 0 ⟨_,rfl,kW _ _ _ _,by simp[Value.ownBlock]⟩ rfl (by grind[St.nx]) (kQ T c.u.size) (λg j=>z g (kQ c.u.size j)));have D:=O (V.u _ (λr=>aD s.nx (C.mk 2 0 0 0 [] tx 0 (-1) h)) Ev.pure (λr=>by simp only[step,H.u,R.u,A.u,(by decide:¬(4:Int)=3),wZ,if_false,if_true];try rfl));have F:=O (show D9 s ⟨(s.nx).i,(s.nx).N++[(C.mk 2 0 0 0 [] tx 0 (-1) h)],(s.nx).T⟩ by
   grind[D9,St.nx]);have W:(0:Int)<=((s.nx).N.length:Int)/\((s.nx).N.length:Int)<(((s.nx).N++[(C.mk 2 0 0 0 [] tx 0 (-1) h)]).length:Int):=by simp;omega
  clear P V;go_wp2_with fail;refine u.u.mono ?_;rintro e a2 ⟨rfl,w,x⟩;have G:=O (c.u.trans w);have M:=O x;clear w x u;go_wp2_with fail;go_ret;exact F6 G.u D.u M.u F.u W
 have b4:(kd==4)=false:=by simp[h4]
 by_cases h1:kd=1;case pos=>
  subst h1;have n:=O (TK.u w0 (by decide) P.u);clear P TK;go_wp2_with fail;refine n.u.mono ?_;rintro e a9 ⟨rfl,i,f⟩;replace c:=O (c.u.trans i);have P:=O f;clear i f n;have hj:=P.u.at';have u:=O (L9 p P.u (C.mk 5 0 0 0 [] tx 0 (-1) h) 0 none 0 0 ⟨_,rfl,kW _ _ _ _,by simp[Value.ownBlock]⟩ rfl (by grind[St.nx]) (kQ T c.u.size) (λg j=>z g (kQ c.u.size j)));have D:=O (V.u _ (λr=>aD s.nx (C.mk 5 0 0 0 [] tx 0 (-1) h)) Ev.pure (λr=>by simp only[step,H.u,R.u,A.u,(by decide:¬(1:Int)=3),(by decide:¬(1:Int)=4),wZ,if_false,if_true];try rfl));have F:=O (show D9 s ⟨(s.nx).i,(s.nx).N++[(C.mk 5 0 0 0 [] tx 0 (-1) h)],(s.nx).T⟩ by
   grind[D9,St.nx]);have W:(0:Int)<=((s.nx).N.length:Int)/\((s.nx).N.length:Int)<(((s.nx).N++[(C.mk 5 0 0 0 [] tx 0 (-1) h)]).length:Int):=by simp;omega
  clear P V;go_wp2_with fail;refine u.u.mono ?_;rintro e a2 ⟨rfl,w,x⟩;have G:=O (c.u.trans w);have M:=O x;clear w x u;go_wp2_with fail;go_ret;exact F6 G.u D.u M.u F.u W
 have b1:(kd==1)=false:=by simp[h1]
 clear TK;have l:=F9 p P.u [116,114,117,101];generalize v:aJ L s.i [[116,114,117,101]]=q0 at l;have Q0:=O v;have t:=O l;clear v l P;go_wp2_with fail;refine t.u.mono ?_;rintro e a9 ⟨rfl,i,f⟩;replace c:=O (c.u.trans i);clear i t;cases q0;case true=>
  have P:Hid (aF a9 B a b L k d s.nx):=f;have hj:=f.at';clear f;have u:=O (L9 p P.u (C.mk 3 0 0 0 [] [] 1 (-1) h) 0 none 0 0 ⟨_,rfl,kW _ _ _ _,by simp[Value.ownBlock]⟩ rfl (by grind[St.nx]) (kQ T c.u.size) (λg j=>z g (kQ c.u.size j)));have D:=O (V.u _ (λr=>aD s.nx (C.mk 3 0 0 0 [] [] 1 (-1) h)) Ev.pure (λr=>by simp only[step,H.u,R.u,A.u,S,h4,h1,Q0.u,wZ,if_false,if_true];try rfl));have F:=O (show D9 s ⟨(s.nx).i,(s.nx).N++[(C.mk 3 0 0 0 [] [] 1 (-1) h)],(s.nx).T⟩ by
   grind[D9,St.nx]);have W:(0:Int)<=((s.nx).N.length:Int)/\((s.nx).N.length:Int)<(((s.nx).N++[(C.mk 3 0 0 0 [] [] 1 (-1) h)]).length:Int):=by simp;omega
  clear P V;go_wp2_with fail;refine u.u.mono ?_;rintro e a2 ⟨rfl,w,x⟩;have G:=O (c.u.trans w);have M:=O x;clear w x u;go_wp2_with fail;go_ret;exact F6 G.u D.u M.u F.u W
 have P:Hid (aF a9 B a b L k d s):=f;clear f;have l:=F9 p P.u [102,97,108,115,101];generalize v:aJ L s.i [[102,97,108,115,101]]=q1 at l;have Q1:=O v;have t:=O l;clear v l P;go_wp2_with fail;refine t.u.mono ?_;rintro e ak ⟨rfl,i,f⟩;replace c:=O (c.u.trans i);clear i t;cases q1;case true=>
  have P:Hid (aF ak B a b L k d s.nx):=f;have hj:=f.at';clear f;have u:=O (L9 p P.u (C.mk 3 0 0 0 [] [] 0 (-1) h) 0 none 0 0 ⟨_,rfl,kW _ _ _ _,by simp[Value.ownBlock]⟩ rfl (by grind[St.nx]) (kQ T c.u.size) (λg j=>z g (kQ c.u.size j)));have D:=O (V.u _ (λr=>aD s.nx (C.mk 3 0 0 0 [] [] 0 (-1) h)) Ev.pure (λr=>by simp only[step,H.u,R.u,A.u,S,h4,h1,Q0.u,Q1.u,wZ,if_false,if_true];try rfl));have F:=O (show D9 s ⟨(s.nx).i,(s.nx).N++[(C.mk 3 0 0 0 [] [] 0 (-1) h)],(s.nx).T⟩ by
   grind[D9,St.nx]);have W:(0:Int)<=((s.nx).N.length:Int)/\((s.nx).N.length:Int)<(((s.nx).N++[(C.mk 3 0 0 0 [] [] 0 (-1) h)]).length:Int):=by simp;omega
  clear P V;go_wp2_with fail;refine u.u.mono ?_;rintro e a2 ⟨rfl,w,x⟩;have G:=O (c.u.trans w);have M:=O x;clear w x u;go_wp2_with fail;go_ret;exact F6 G.u D.u M.u F.u W
 have P:Hid (aF ak B a b L k d s):=f;clear f;have l:=F9 p P.u [110,117,108,108];generalize v:aJ L s.i [[110,117,108,108]]=q2 at l;have Q2:=O v;have t:=O l;clear v l P;go_wp2_with fail;refine t.u.mono ?_;rintro e al ⟨rfl,i,f⟩;replace c:=O (c.u.trans i);clear i t;cases q2;case true=>
  have P:Hid (aF al B a b L k d s.nx):=f;have hj:=f.at';clear f;have u:=O (L9 p P.u (C.mk 4 0 0 0 [] [] 0 (-1) h) 0 none 0 0 ⟨_,rfl,kW _ _ _ _,by simp[Value.ownBlock]⟩ rfl (by grind[St.nx]) (kQ T c.u.size) (λg j=>z g (kQ c.u.size j)));have D:=O (V.u _ (λr=>aD s.nx (C.mk 4 0 0 0 [] [] 0 (-1) h)) Ev.pure (λr=>by simp only[step,H.u,R.u,A.u,S,h4,h1,Q0.u,Q1.u,Q2.u,wZ,if_false,if_true];try rfl));have F:=O (show D9 s ⟨(s.nx).i,(s.nx).N++[(C.mk 4 0 0 0 [] [] 0 (-1) h)],(s.nx).T⟩ by
   grind[D9,St.nx]);have W:(0:Int)<=((s.nx).N.length:Int)/\((s.nx).N.length:Int)<(((s.nx).N++[(C.mk 4 0 0 0 [] [] 0 (-1) h)]).length:Int):=by simp;omega
  clear P V;go_wp2_with fail;refine u.u.mono ?_;rintro e a2 ⟨rfl,w,x⟩;have G:=O (c.u.trans w);have M:=O x;clear w x u;go_wp2_with fail;go_ret;exact F6 G.u D.u M.u F.u W
 have P:Hid (aF al B a b L k d s):=f;clear f;have l:=F9 p P.u [102,110];generalize v:aJ L s.i [[102,110]]=q3 at l;have Q3:=O v;have t:=O l;clear v l P;go_wp2_with fail;refine t.u.mono ?_;rintro e ac ⟨rfl,i,f⟩;replace c:=O (c.u.trans i);clear i t;cases q3;case true=>
  have P:Hid (aF ac B a b L k d s.nx):=f;have hj:=f.at';clear f;have n:=O (hF (L.length-s.nx.i) (by grind[St.nx]) h ac k d s.nx (vQ _) (λg j=>z g (kQ c.u.size j)) (kQ T c.u.size) P.u);clear P;go_wp2_with fail;refine n.u.mono ?_;rintro e a2 q;have N:=O (tH c.u q (λo y=>V.u o _ y (λr=>by simp only[step,H.u,R.u,A.u,S,h4,h1,Q0.u,Q1.u,Q2.u,Q3.u,wZ,if_false,if_true];rfl)));have a4:=M3 q;clear q n c V;obtain⟨a7,rfl⟩|⟨er,a8,rfl⟩:=a4
  .go_wp2_with fail;go_ret;exact N.u
  .exact⟨rfl,N.u⟩
 have P:Hid (aF ac B a b L k d s):=f;clear f;have l:=F9 p P.u [91];generalize v:aJ L s.i [[91]]=q4 at l;have Q4:=O v;have t:=O l;clear v l P;go_wp2_with fail;refine t.u.mono ?_;rintro e ad ⟨rfl,i,f⟩;replace c:=O (c.u.trans i);clear i t;cases q4;case true=>
  have P:Hid (aF ad B a b L k d s.nx):=f;have hj:=f.at';clear f;have n:=O (IA (w:=ad) (ok:=k) 195 (λ_ _=>by rfl) (pt:=.expr) (φ:=λd s r=>r.expr d s) (λ_ _ _=>rfl) p (L.length-s.nx.i) (λZ ar=>(hE Z (by grind[St.nx])).rh) [93] (vQ _) (λg j=>z g (kQ c.u.size j)) (kQ T c.u.size) P.u);clear P;go_wp2_with fail;refine n.u.mono ?_;rintro e au ⟨i,o,ag,q⟩;have K':=O (c.u.trans i);have E1:=O ag;have hz:=c.u.size;clear i ag n c;have c:=O K'.u;clear K';have VL:=O (λo (y:Ev L (λr=>A8 (r.M .expr [93] d s.nx [] []) λs' a3=>aD s' (C.mk 11 0 0 0 a3 [] 0 (-1) h)) o)=>V.u o _ y (λr=>by simp only[step,H.u,R.u,A.u,S,h4,h1,Q0.u,Q1.u,Q2.u,Q3.u,Q4.u,wZ,if_false,if_true];try rfl));cases o with
  |fail er a8=>
   obtain⟨rfl,he⟩:=q;exact⟨rfl,D3 c.u (VL.u _ (Ev.bad E1.u)) he⟩
  |ok s1 a3=>
   obtain⟨la,lc,rfl,y,hl,f,j⟩:=q;have am:_/\_/\_/\_:=j;simp only[St.nx]at am;have P:=O f;have O1:=O y;have aq:=f.at';clear f y j;have u:=O (L9 p P.u (C.mk 11 0 0 0 a3 [] 0 (-1) h) 0 la a3.length lc ⟨_,rfl,C8 O1.u (wQ _),λg j=>z g (by have:=(A9 O1.u g j).1;omega)⟩ rfl (by omega) (kQ T c.u.size) (λg j=>z g (kQ c.u.size j)));have D:=O (VL.u _ (Ev.bind (k:=λr s' a3=>aD s' (C.mk 11 0 0 0 a3 [] 0 (-1) h)) E1.u Ev.pure));have F:=O (show D9 s ⟨(s1).i,(s1).N++[(C.mk 11 0 0 0 a3 [] 0 (-1) h)],(s1).T⟩ by
    grind[D9,St.nx,qQ,jQ,xQ]);have W:(0:Int)<=((s1).N.length:Int)/\((s1).N.length:Int)<(((s1).N++[(C.mk 11 0 0 0 a3 [] 0 (-1) h)]).length:Int):=by simp;omega
   clear P V;go_wp2_with fail;refine u.u.mono ?_;rintro e a2 ⟨rfl,w,x⟩;have G:=O (c.u.trans w);have M:=O x;clear w x u;go_wp2_with fail;go_ret;exact F6 G.u D.u M.u F.u W
 have P:Hid (aF ad B a b L k d s):=f;clear f;have l:=F9 p P.u [123];generalize v:aJ L s.i [[123]]=q5 at l;have Q5:=O v;have t:=O l;clear v l P;go_wp2_with fail;refine t.u.mono ?_;rintro e aa ⟨rfl,i,f⟩;replace c:=O (c.u.trans i);clear i t;cases q5;case true=>
  have P:Hid (aF aa B a b L k d s.nx):=f;have hj:=f.at';clear f;have n:=O (hO (L.length-s.nx.i) (by grind[St.nx]) h aa k d s.nx (vQ _) (λg j=>z g (kQ c.u.size j)) (kQ T c.u.size) P.u);clear P;go_wp2_with fail;refine n.u.mono ?_;rintro e a2 q;have N:=O (tH c.u q (λo y=>V.u o _ y (λr=>by simp only[step,H.u,R.u,A.u,S,h4,h1,Q0.u,Q1.u,Q2.u,Q3.u,Q4.u,Q5.u,wZ,if_false,if_true];rfl)));have a4:=M3 q;clear q n c V;obtain⟨a7,rfl⟩|⟨er,a8,rfl⟩:=a4
  .go_wp2_with fail;go_ret;exact N.u
  .exact⟨rfl,N.u⟩
 have P:Hid (aF aa B a b L k d s):=f;clear f;have n:=O (Uc p a6 hE aa k d s hm (λg j=>z g (kQ c.u.size j)) (kQ T c.u.size) P.u);clear P;go_wp2_with fail;refine n.u.mono ?_;rintro e a2 q;have N:=O (yR c.u q (λo y=>V.u o _ y (λr=>by simp only[step,H.u,R.u,A.u,S,h4,h1,Q0.u,Q1.u,Q2.u,Q3.u,Q4.u,Q5.u,wZ,if_false,if_true];try rfl)));have a4:=M3 q;clear q n c V;obtain⟨a7,rfl⟩|⟨er,a8,rfl⟩:=a4
 .go_wp2_with fail;go_ret;exact N.u
 .exact⟨rfl,N.u⟩
def aR.andThen{d}{m}{f g c}(h:aR B d m f g)(k:Kept B d g c):aR B d m f c:=by
 refine⟨k.os.trans h.os,k.tape.trans h.tape,k.output.trans h.output,kQ h.size k.size,λi j l=>?_⟩;have p:=h.block i j l;refine(k.block i (yQ j h.size) (λx=>l ?_)).trans p;obtain⟨q,⟨n,e,o,t,r⟩,s⟩:=x;exact .inl ⟨q,⟨n,e,o,by grind,r⟩,s⟩
def JQ{n}{m}{w j}{q:Nat}{i}{e}(k:aR B n m w j)(h:w.heap[q]?=some (.cells i e (0,0)))(o:e≠103/\e≠85/\e≠81/\e≠29/\e≠9):j.heap[q]?=some (.cells i e (0,0)):=by
 refine(k.block q (aI h) (λl=>?_)).trans h;have p:∀f c g,w.heap[q]?=some (.cells f c g)->c=e:=by
  intro f c g d;rw[h]at d;simp at d;exact d.2.1.symm
 obtain⟨_,⟨f,c,g,d,r⟩,_⟩|⟨_,f,c,g,d,r⟩:=l<;>grind
def oX(w:E)(B a:Nat)(b:Value)(L:List Tk)(h:Nat->Prop)(d:Nat)(s:St)(g j:Nat)(k:Sp->Option (Out (Int×List Y)))(e:Ending)(c:E):Prop:=
 aR B h g w c/\∃o,Ev L k o/\match o with
  |.ok i x=>e=.returned (U x.1)/\fL c g j x.2/\aF c B a b L h d i/\D9 s i
  |.fail f p=>e=gu f p/\f≠0
def Mb(M:cK L)(ac)(hE:∀m',m'<=ac->bD B a b L 195 (λd s r=>r.expr d s) m')(w)(q)(d)(s)(n u z)(i)(T:w.heap[z]?=some (.cells #[pV a] 101 (0,0)))(hn:fL w n u i)(hl:i.length<=1001)(aj:n<=w.heap.size)(hm:L.length-s.i<=ac)(a9:∀g,w.heap.size<=g->q g)(hB:B<=w.heap.size)(h:aF w B a b L q d s):
 Calls prog 298 #[pV z,pV u] w (oX w B a b L q d s n u (λr=>part L r d s i .obj)):=by
 have hi:=h.at';have hs:=M.je;have ar:=h.fq;have ak:=(aI T);have BX:Hid (∀j,I No w j->j.heap[z]?=some (.cells #[pV a] 101 (0,0))):=λj k=>(k.block z ak (λx=>x)).trans T;have ae:w.cell? (J z 0)=some (pV a):=cr T rfl;have HA:Hid (∀j,I No w j->Calls prog 110 #[pV a] j λe A=>e=.returned (U ((tk L s.i).at':Int))/\Hid (I No w A)/\A.cell? (J z 0)=some (pV a)):=λj k=>(tY M (h.y k)).mono (by
  rintro e A ⟨he,N⟩;have a6:=k.trans N (λ_ _ x=>x);exact⟨he,a6,cr (BX.u A a6) rfl⟩);have a2:Hid (∀o,Ev L (λr=>A8 (aN L s i) λl f=>A8 (aB L l [58]) λG _=>A8 (r.expr d G) λv x=>A8 (aD v (C.mk 15 x 0 0 [] f 0 (-1) ((tk L s.i).at':Int))) λc y=>some (.ok c (y,i++[f]))) o->Ev L (λr=>part L r d s i .obj) o):=λo P=>P;have HN:Hid (∀j,I No w j->Calls prog 274 #[pV a,pV u] j λe A=>
  (∃t p,e=gu t p/\Hid (oX w B a b L q d s n u (λr=>part L r d s i .obj) (gu t p) A))\/
  (∃l f,e=.returned (.string ⟨f.toArray⟩)/\Hid (aN L s i=some (.ok l f))/\aR B q n j A/\fL A n u (i++[f])/\aF A B a b L q d l)):=by
  intro j k;refine(JT M (h.y k) n u i (hn.P k (λ_ _ _ _ x=>x.elim)) hl (kQ aj k.size)).mono ?_;rintro e A ⟨hk,W⟩;rcases F:aN L s i with _|⟨l,f⟩|⟨t,p⟩
  .grind
  .grind[O]
  .rw[F]at W;have ah:t≠0:=by
    unfold aN bC at F;split at F
    .grind
    .grind
   exact .inl ⟨t,p,W,aR.after (C9 k) hk,_,a2.u _ (Ev.bad (Ev.pure.eq (λr=>F))),rfl,ah⟩
 clear h hn T;generalize ((tk L s.i).at':Int)=D at*;go_in;go_wp2_with fail;go_region_with (first|(go_at_call 110;refine(HA.u _ (I.drewN _ _ 1)).mono ?_;rintro e an ⟨rfl,N,af⟩)|(go_at_call 274;refine(HN.u _ (Hid.u (by omega))).mono ?_;rintro e ao (⟨t,p,rfl,HF⟩|⟨l,f,rfl,F,a4,a8,aa⟩);exact⟨rfl,HF.u⟩));all_goals
  have K2:=O (aR.after (C9 (Hid.u N)) a4);have a3:=JQ a4 (BX.u an (Hid.u N)) (by decide);have ag:ao.cell? (J z 0)=some (pV a):=cr a3 rfl;have HD:=O (I2 M aa [58]);have N2:=O a8;have V2:=O (λo (P:Ev L (λr=>A8 (aB L l [58]) λG (_:Unit)=>A8 (r.expr d G) λv x=>A8 (aD v (C.mk 15 x 0 0 [] f 0 (-1) D)) λc y=>some (.ok c (y,i++[f]))) o)=>a2.u o (Ev.bind (k:=λr l f=>A8 (aB L l [58]) λG _=>A8 (r.expr d G) λv x=>A8 (aD v (C.mk 15 x 0 0 [] f 0 (-1) D)) λc y=>some (.ok c (y,i++[f]))) (Ev.pure.eq (λr=>Hid.u F)) P));have am:=fO (Hid.u F);have B2:=O a3;clear a4 aa a8 N ae af HA HN a2 BX a3;go_wp2_with fail;refine HD.u.mono ?_;rintro e ad ⟨V,W⟩;have H:=O (K2.u.andThen V);have N3:=O (N2.u.kept V);have B3:=O (X9 V B2.u (by decide));clear V K2 N2 B2 HD ag;obtain⟨S,rfl,hp⟩|⟨S,rfl⟩:=W;case inr=>exact⟨rfl,H.u,_,V2.u _ (Ev.bad (S5 S)),rfl,by decide⟩
  have V3:=O (λo (P:Ev L (λr=>A8 (r.expr d l.nx) λv x=>A8 (aD v (C.mk 15 x 0 0 [] f 0 (-1) D)) λc y=>some (.ok c (y,i++[f]))) o)=>V2.u o (Ev.bind (k:=λr G (_:Unit)=>A8 (r.expr d G) λv x=>A8 (aD v (C.mk 15 x 0 0 [] f 0 (-1) D)) λc y=>some (.ok c (y,i++[f]))) (M6 S) P));have au:=hp.at';have ap:ad.cell? (J z 0)=some (pV a):=cr B3.u rfl;have HX:Hid (∀j,I No ad j->Calls prog 195 #[pV a] j λe m=>
   (∃t p,e=gu t p/\Hid (oX w B a b L q d s n u (λr=>part L r d s i .obj) (gu t p) m))\/
   (∃c x,e=.returned (U x)/\m.cell? (J z 0)=some (pV a)/\Hid (aR B q n w m/\fL m n u (i++[f])/\aF m B a b L q d c/\D9 l.nx c/\Ev L (λr=>part L r d s i .obj) (.ok ⟨c.i,c.N++[(C.mk 15 x 0 0 [] f 0 (-1) D)],c.T⟩ ((c.N.length:Int),i++[f]))))):=by
   intro j k;refine(hE (L.length-l.nx.i) (by grind[St.nx]) j q d l.nx (vQ _) (λg hg=>a9 g (kQ H.u.size (kQ k.size hg))) (kQ hB (kQ H.u.size k.size)) (hp.y k)).mono ?_;rintro e m ⟨R,o,a7,ab⟩;have Z:=(C9 k).trans R;cases o with
   |fail t p=>
    obtain⟨rfl,he⟩:=ab;exact .inl ⟨t,p,rfl,H.u.andThen Z,_,V3.u _ (Ev.bad a7),rfl,he⟩
   |ok c x=>
    obtain⟨rfl,al,ai,av⟩:=ab;refine .inr ⟨c,x,rfl,by rw[cell_of_row m z 0 _ _ _ (X9 Z B3.u (by decide))];rfl,H.u.andThen Z,N3.u.kept Z,al,ai,V3.u _ (Ev.bind (k:=λr v x=>A8 (aD v (C.mk 15 x 0 0 [] f 0 (-1) D)) λc y=>some (.ok c (y,i++[f]))) a7 (Ev.pure.eq (λr=>rfl)))⟩
  have HY:Hid (∀m c x,aR B q n w m/\fL m n u (i++[f])/\aF m B a b L q d c/\D9 l.nx c/\Ev L (λr=>part L r d s i .obj) (.ok ⟨c.i,c.N++[(C.mk 15 x 0 0 [] f 0 (-1) D)],c.T⟩ ((c.N.length:Int),i++[f]))->Calls prog 69 #[pV a,.agg #[U 15,U x,U 0,U 0,sN,.string ⟨f.toArray⟩,U 0,U 0,U D]] m λe a5=>
   e=.returned (U (c.N.length:Int))/\Hid (oX w B a b L q d s n u (λr=>part L r d s i .obj) (.returned (U (c.N.length:Int))) a5)):=by
   rintro m c x ⟨R,n4,p4,g4,e4⟩;have g5:_/\_/\_/\_:=g4;rw[am]at g5;simp only[St.nx]at g5;refine(L9 M p4 (C.mk 15 x 0 0 [] f 0 (-1) D) 0 none 0 0 ⟨_,rfl,kW _ _ _ _,by simp[Value.ownBlock]⟩ rfl (by omega) (kQ hB R.size) (λg hg=>a9 g (kQ R.size hg))).mono ?_;rintro e a5 ⟨rfl,k5,p5⟩;refine⟨rfl,R.andThen k5,_,e4,rfl,n4.kept k5,p5,?_⟩;simp only[D9,qQ,jQ,xQ];omega
  clear V2 V3 S hp H N3 B3;go_wp2_with fail;go_region_with (first|(go_at_call 195;refine(HX.u _ (I.drewN _ _ 1)).mono ?_;rintro e m (⟨t,p,rfl,H4⟩|⟨c,x,rfl,aq,H4⟩);exact⟨rfl,H4.u⟩)|(go_at_call 69;refine(HY.u _ _ _ (Hid.u H4)).mono ?_;rintro e a5 ⟨rfl,H5⟩));all_goals go_wp2_with fail
  all_goals go_ret
  all_goals exact H5.u
def xz(H:cK L)(w)(q)(d)(s)(m t z)(i)(P:w.heap[z]?=some (.cells #[pV a] 101 (0,0)))(hn:fL w m t i)(hl:i.length<=1001)(ag:m<=w.heap.size)(a9:∀g,w.heap.size<=g->q g)(hB:B<=w.heap.size)(h:aF w B a b L q d s):
 Calls prog 297 #[pV z,pV t] w (oX w B a b L q d s m t (λr=>part L r d s i .par)):=by
 have hi:=h.at';have hs:=H.je;have an:=h.fq;have ah:=(aI P);have T:Hid (∀j,I No w j->j.heap[z]?=some (.cells #[pV a] 101 (0,0))):=λj k=>(k.block z ah (λx=>x)).trans P;have ac:w.cell? (J z 0)=some (pV a):=cr P rfl;have HA:Hid (∀j,I No w j->Calls prog 110 #[pV a] j λe v=>e=.returned (U ((tk L s.i).at':Int))/\Hid (I No w v)/\v.cell? (J z 0)=some (pV a)):=λj k=>(tY H (h.y k)).mono (by
  rintro e v ⟨he,M⟩;have a6:=k.trans M (λ_ _ x=>x);exact⟨he,a6,cr (T.u v a6) rfl⟩);have V:Hid (∀o,Ev L (λr=>A8 (aN L s i) λu f=>A8 (aY L r d u) λF x=>A8 (aD F (C.mk 16 0 0 0 [] f 0 x ((tk L s.i).at':Int))) λc y=>some (.ok c (y,i++[f]))) o->Ev L (λr=>part L r d s i .par) o):=λo ho=>ho;have HN:Hid (∀j,I No w j->Calls prog 274 #[pV a,pV t] j λe v=>
  (∃n p,e=gu n p/\Hid (oX w B a b L q d s m t (λr=>part L r d s i .par) (gu n p) v))\/
  (∃u f,e=.returned (.string ⟨f.toArray⟩)/\Hid (aN L s i=some (.ok u f))/\aR B q m j v/\fL v m t (i++[f])/\aF v B a b L q d u)):=by
  intro j k;refine(JT H (h.y k) m t i (hn.P k (λ_ _ _ _ x=>x.elim)) hl (kQ ag k.size)).mono ?_;rintro e v ⟨hk,hr⟩;rcases D:aN L s i with _|⟨u,f⟩|⟨n,p⟩
  .grind
  .grind[O]
  .rw[D]at hr;have ae:n≠0:=by
    unfold aN bC at D;split at D
    .grind
    .grind
   exact .inl ⟨n,p,hr,aR.after (C9 k) hk,_,V.u _ (Ev.bad (Ev.pure.eq (λr=>D))),rfl,ae⟩
 clear h hn P;generalize ((tk L s.i).at':Int)=A at*;go_in;go_wp2_with fail;go_region_with (first|(go_at_call 110;refine(HA.u _ (I.drewN _ _ 1)).mono ?_;rintro e ak ⟨rfl,M,ad⟩)|(go_at_call 274;refine(HN.u _ (Hid.u (by omega))).mono ?_;rintro e ab (⟨n,p,rfl,HF⟩|⟨u,f,rfl,D,a2,a8,a3⟩);exact⟨rfl,HF.u⟩));all_goals
  have G:=O (aR.after (C9 (Hid.u M)) a2);have S:=O (JQ a2 (T.u ak (Hid.u M)) (by decide));have al:ab.cell? (J z 0)=some (pV a):=cr S.u rfl;have N3:=O a8;have Z:=O (λo (ho:Ev L (λr=>A8 (aY L r d u) λF x=>A8 (aD F (C.mk 16 0 0 0 [] f 0 x A)) λc y=>some (.ok c (y,i++[f]))) o)=>V.u o (Ev.bind (k:=λr u f=>A8 (aY L r d u) λF x=>A8 (aD F (C.mk 16 0 0 0 [] f 0 x A)) λc y=>some (.ok c (y,i++[f]))) (Ev.pure.eq (λr=>Hid.u D)) ho));have aj:=fO (Hid.u D);have a5:=O a3;have ao:=a3.at';clear a2 a3 a8 M ac ad HA HN V T;have HX:Hid (∀j,I No ab j->Calls prog 193 #[pV a] j λe l=>
   (∃n p,e=gu n p/\Hid (oX w B a b L q d s m t (λr=>part L r d s i .par) (gu n p) l))\/
   (∃c x,e=.returned (U x)/\l.cell? (J z 0)=some (pV a)/\Hid (aR B q m w l/\fL l m t (i++[f])/\aF l B a b L q d c/\J1 u c/\Ev L (λr=>part L r d s i .par) (.ok ⟨c.i,c.N++[(C.mk 16 0 0 0 [] f 0 x A)],c.T⟩ ((c.N.length:Int),i++[f]))))):=by
   intro j k;refine(LF H (a5.u.y k) (λg hg=>a9 g (kQ G.u.size (kQ k.size hg))) (kQ hB (kQ G.u.size k.size))).mono ?_;rintro e l ⟨N,o,a7,aa⟩;have R:=(C9 k).trans N;cases o with
   |fail n p=>
    obtain⟨rfl,he⟩:=aa;exact .inl ⟨n,p,rfl,G.u.andThen R,_,Z.u _ (Ev.bad a7),rfl,he⟩
   |ok c x=>
    obtain⟨rfl,ai,af⟩:=aa;refine .inr ⟨c,x,rfl,by rw[cell_of_row l z 0 _ _ _ (X9 R S.u (by decide))];rfl,G.u.andThen R,N3.u.kept R,ai,af,Z.u _ (Ev.bind (k:=λr F x=>A8 (aD F (C.mk 16 0 0 0 [] f 0 x A)) λc y=>some (.ok c (y,i++[f]))) a7 (Ev.pure.eq (λr=>rfl)))⟩
  have HY:Hid (∀l c x,aR B q m w l/\fL l m t (i++[f])/\aF l B a b L q d c/\J1 u c/\Ev L (λr=>part L r d s i .par) (.ok ⟨c.i,c.N++[(C.mk 16 0 0 0 [] f 0 x A)],c.T⟩ ((c.N.length:Int),i++[f]))->Calls prog 115 #[pV a,.agg #[U 16,U 0,U 0,U 0,sN,.string ⟨f.toArray⟩,U 0,U x,U A]] l λe a4=>
   e=.returned (U (c.N.length:Int))/\Hid (oX w B a b L q d s m t (λr=>part L r d s i .par) (.returned (U (c.N.length:Int))) a4)):=by
   rintro l c x ⟨N,n4,p4,g4,e4⟩;have g5:_/\_/\_/\_:=g4;rw[aj]at g5;simp only[St.nx]at g5;refine(Q6 H p4 (C.mk 16 0 0 0 [] f 0 x A) none 0 0 ⟨_,rfl,kW _ _ _ _,by simp[Value.ownBlock]⟩ (by omega) (kQ hB N.size) (λg hg=>a9 g (kQ N.size hg))).mono ?_;rintro e a4 ⟨rfl,k5,p5⟩;refine⟨rfl,N.andThen k5,_,e4,rfl,n4.kept k5,p5,?_⟩;simp only[D9,qQ,jQ,xQ];omega
  clear Z a5 G N3 S;go_wp2_with fail;go_region_with (first|(go_at_call 193;refine(HX.u _ (I.drewN _ _ 1)).mono ?_;rintro e l (⟨n,p,rfl,W⟩|⟨c,x,rfl,am,W⟩);exact⟨rfl,W.u⟩)|(go_at_call 115;refine(HY.u _ _ _ (Hid.u W)).mono ?_;rintro e a4 ⟨rfl,H5⟩));all_goals go_wp2_with fail
  all_goals go_ret
  all_goals exact H5.u
end
section
variable{w:E}{B b:Nat}{c:Value}{L:List Tk}{a:Nat->Prop}{d:Nat}{s:St}
def aR.mono{a ok'}{i}{e f}(h:aR B a i e f)(j:∀g,a g->ok' g):aR B ok' i e f:=
 I.mono h λ_ _ x=>x.elim (λx=>.inl ⟨x.1,x.2.1,j _ x.2.2⟩) .inr
theorem aR.trans{a}{j}{m n o}(h:aR B a j m n)(k:aR B a j n o):aR B a j m o:=by
 refine⟨k.os.trans h.os,k.tape.trans h.tape,k.output.trans h.output,kQ h.size k.size,λi p q=>?_⟩;have t:=h.block i p q;refine(k.block i (yQ p h.size) (λx=>q ?_)).trans t;obtain⟨l,⟨f,e,g,u,r⟩,v⟩|⟨l,f,e,g,u,r⟩:=x
 .exact .inl ⟨l,⟨f,e,g,by grind,r⟩,v⟩
 .exact .inr ⟨l,f,e,g,by grind,r⟩
theorem aR.grown{a}{g}{f w h:E}{o n}{e}{v}{p}(k:aR B a g f w)(l:w.ownsRow f.heap.size e o v n p)(j:w.grownBy h v.ownBlock):aR B a g f h:=
 I.trans k (I.grown j) (λi q m=>by have:=(A9 l i m.symm).1;omega)
theorem aR.alloc{a}{g}{e f}(h:aR B a g e f)(o):aR B a g e (f.alloc o):=h.andThen ((Kept.refl _ _ _).alloc o)
def Hs{p}{r}{d}{s g}{e}{x}(f:p=.obj\/p=.par)(h:part L r d s e p=some (.ok g x)):x.2.length=e.length+1:=by
 obtain rfl|rfl:=f;all_goals
  simp only[part,A8]at h;repeat' split at h
  all_goals first
   |(simp only[zQ,Out.ok.injEq]at h;obtain⟨_,rfl⟩:=h;simp)
   |simp at h
def iK{p}{d}{s j}{e}{x}(i:p=.obj\/p=.par)(h:Ev L (λr=>part L r d s e p) (.ok j x)):x.2.length=e.length+1:=by
 obtain⟨f,g⟩:=h;exact Hs i (g f (vQ _))
def BI(s e:St):Prop:=s.i<e.i/\e.N.length+s.i+1<=s.N.length+e.i/\e.T.length+s.i<=s.T.length+e.i/\s.N.length<=e.N.length
def KJ(w:E)(B b:Nat)(c:Value)(L:List Tk)(a:Nat->Prop)(d:Nat)(s:St)(k:Nat)(m:Sp->Option (Out bZ))(e:Ending)(g:E):Prop:=
 aR B a k w g/\∃o,Ev L m o/\match o with
  |.ok f l=>∃h i,e=.returned (.slice h l.length i)/\g.ownsRow w.heap.size 3 1 (.slice h l.length i) l.length (C7 l)/\l.length<=f.i/\aF g B b c L a d f/\BI s f
  |.fail j p=>e=gu j p/\j≠0
def IJ{f}{h}{g}{e p}(k:aR B a f w g)(j:Ev L h (.fail e p))(i:e≠0):KJ w B b c L a d s f h (gu e p) g:=⟨k,_,j,rfl,i⟩
def Ij{i}{j}{f}{e}{l}{g}{h}(n:aR B a i w f)(k:Ev L j (.ok e l))(p:f.ownsRow w.heap.size 3 1 (.slice g l.length h) l.length (C7 l))(o:l.length<=e.i)(q:aF f B b c L a d e)(m:BI s e):
 KJ w B b c L a d s i j (.returned (.slice g l.length h)) f:=⟨n,_,k,_,_,rfl,p,o,q,m⟩
def LH(B b:Nat)(c:Value)(L:List Tk)(j:Nat)(p:mD)(m:Nat):Prop:=
 ∀(w) (a) (d) (s) (e h i) (f),w.heap[i]?=some (.cells #[pV b] 101 (0,0))->fL w e h f->f.length<=1001->e<=w.heap.size->L.length-s.i<=m->(∀g,w.heap.size<=g->a g)->B<=w.heap.size->aF w B b c L a d s->
  Calls prog j #[pV i,pV h] w (oX w B b c L a d s e h (λr=>part L r d s f p))
def jH(w:E)(e b:Nat):Prop:=w.heap[e]?=some (.cells #[pV b] 101 (0,0))
def jH.jv{a}{i e}{w f}(h:jH w e b)(g:aR B a i w f):jH f e b:=JQ g h (by decide)
theorem jH.P{e}{S}{w w'}(h:jH w e b)(f:I S w w')(g:¬S e):jH w' e b:=(f.block e (aI h) g).trans h
theorem jH.grown{w f:E}{e g m n}{v}{o}(h:jH w e b)(k:w.ownsRow g 3 m v n o)(i:w.grownBy f v.ownBlock):jH f e b:=by
 refine h.P (I.grown i) (λl=>?_);obtain⟨_,p,j⟩:=A9 k e l.symm;rw[show w.heap[e]?=_ from h]at j;grind
theorem fL.grown{w j:E}{f i l q n}{g}{v}{r}(h:fL w f i g)(o:w.ownsRow l 3 q v n r)(m:w.grownBy j v.ownBlock):fL j f i g:=by
 refine h.P (I.grown m) (λk t e x p=>?_);obtain⟨_,u,y⟩:=A9 o k p.symm;grind
theorem fL.alloc{w}{e g}{f}(h:fL w e g f)(o):fL (w.alloc o) e g f:=h.P (I.alloc No _ o) (λ_ _ _ _ x=>x.elim)
theorem jH.alloc{w}{e}(h:jH w e b)(o):jH (w.alloc o) e b:=h.P (I.alloc No _ o) (λx=>x)
def TC(kf:Nat)(cf:∀(an) (am:E),(callFunc kf an).run prog am=.ok (.enter kf an) am){q}(ar:q=.obj\/q=.par)(hL:cK L)(au)(hC:∀m',m'<=au->LH B b c L kf q m')(E)(N nb bx)(ao:jH w bx b)(hn:fL w N nb [])(ap:N<=w.heap.size)(hm:L.length-s.i<=au)(aq:∀g,w.heap.size<=g->a g)(hB:B<=w.heap.size)(h:aF w B b c L a d s):
 Calls prog 275 #[pV b,.string ⟨E.toArray⟩,.func (.func kf) #[] #[pV bx,pV nb]] w (KJ w B b c L a d s N (λr=>r.M q E d s [] [])):=by
 have hs:=hL.je;have hi:=h.at';have HP:=O h;have HX:=O ao;have HN:=O hn;clear h ao hn;go_in;go_wp2_with fail;go_loopw [7] (λb0 wr=>∃(T:List Y) (e:bZ) (i:St) (A:Option Addr) (D:Nat),b0=.slice A e.length D/\e.length<=i.i/\Hid (T.length=e.length)/\Hid (fL wr N nb T)/\Hid (jH wr bx b)/\Hid (aR B a N w wr)/\Hid (J1 s i)/\Hid (wr.ownsRow w.heap.size 3 1 (.slice A e.length D) e.length (C7 e))/\
  Hid (aF wr B b c L (λg=>a g/\some g≠Value.ownBlock (.slice A e.length D)) d i)/\Hid (∀o,Ev L (λr=>r.M q E d i T e) o->Ev L (λr=>r.M q E d s [] []) o)) (λ_ wr=>L.length-oO wr b);case atStart=>exact⟨[],[],s,none,0,rfl,by simp,rfl,HN.u,HX.u,(Kept.refl _ _ _).lh,⟨vQ _,by omega,by omega,by omega⟩,kW _ _ _ _,HP.u.mono (λg k _=>⟨k,by simp[Value.ownBlock]⟩),λ_ h=>h⟩
 case round=>
  obtain⟨T,e,i,A,D,rfl,av,NL,NR,XR,KR,V,OR,PR,u⟩:=hrel;have HT:=F9 hL PR.u E;have b3:=PR.u.at';have b5:=PR.u.jq;generalize hq:aJ L i.i [E]=ay at*;have S:=O hq;clear hq;go_wp2_with fail;refine HT.mono ?_;clear HT;rintro ae aj ⟨rfl,f,n⟩;have z:=O (KR.u.andThen (f.mono λ_ h=>h.1));have N3:=O (NR.u.kept f);have X3:=O (XR.u.jv (f.lh (lo:=0)));have ac:=O n;have M:=O (F8 OR.u f (by decide));clear f n OR PR KR NR XR;cases ay
  .have l:aF aj B b c L (λg=>a g/\some g≠Value.ownBlock (.slice A e.length D)) d i:=by simpa using ac.u
   clear ac;by_cases hz:e.length=0
   .have W:Hid ((if e.length=0 then some (.ok i ()) else aB L i [44])=some (Out.ok i ())):=by show _=_;rw[wY hz]
    have ha:=List.eq_nil_of_length_eq_zero hz;subst ha;simp only[xQ]at M l av NL⊢;clear hz;have hj:=V.u.1;have Z:=hC (L.length-i.i) (by omega) aj _ d i N nb bx T X3.u N3.u (by have h0:=NL.u;omega) (kQ ap z.u.size) (vQ _) (λg k=>⟨aq g (kQ z.u.size k),λhx=>by have:=(M.u.lt g hx.symm).2;omega⟩) (kQ hB z.u.size) l;clear l;go_wp2_with fail;refine Z.mono ?_;clear Z;rintro ae ak ⟨f,o,a5,a7⟩;have t:=O (z.u.trans (f.mono λ_ h=>h.1));have X4:=O (X3.u.jv f);have j:=O (IC M.u f (by decide));have F:=O a5;clear f a5 z M X3 N3;cases o with
    |fail er p=>
     obtain⟨rfl,he⟩:=a7;exact⟨rfl,IJ t.u (u.u _ (W8 S.u W.u (Ev.bad F.u))) he⟩
    |ok P al=>
     obtain⟨rfl,a6,n,k⟩:=a7;have NX:=O (iK ar F.u);obtain⟨y,aa⟩:=al;have H:=O a6;clear a6;simp only at H NX;have a2:=O n;have G:=O k;have aw:=n.at';clear n k;have VN:=O (λo (ho:Ev L (λr=>r.M q E d P aa ([]++[y])) o)=>u.u o (W8 S.u W.u (Ev.bind (k:=λr s ab=>r.M q E d s ab.2 ([]++[ab.1])) F.u ho)));clear u;obtain⟨i0,af,ag,ah,ai⟩:=info_parts Tryz.fm;have a9:=O (j.u.alloc (.cells #[U y] 3));have ax:0+1<=P.i:=by
      have v:=G.u.1;first|(simp only[St.nx]at v;omega)|omega
     go_wp2_with (at_builtin;refine wpList_append_own_at _ rfl _ _ 54 rfl w.heap.size 3 i0 (U 0) 1 8 underlying54 af ag ah ai rfl (by decide) _ _ _ rfl a9.u (J ak.heap.size 0) 1 1 [U y] rfl rfl ?c1 ?c2 ?c3 ?c4 ?c5 ?_);case c1=>grind[cell_one_new]
     case c2=>intro az hu;simp at hu;obtain rfl:=hu;rfl
     case c3=>grind[maxLen]
     case c4=>omega
     case c5=>have:=t.u.size;simp;omega
     .intro v' b1 x m _ a4;obtain⟨a3,c2,a8⟩:=B8 x;rw[a8]at x a4⊢;have PG:=O ((a2.u.alloc (.cells #[U y] 3)).grown (v:=.slice A 0 D) (v':=.slice a3 (0+1) c2) (j.u.alloc _) (.inl rfl) m (by simp_all));have KG:=O ((t.u.alloc (.cells #[U y] 3)).grown (j.u.alloc _) m);have NG:=O ((H.u.alloc (.cells #[U y] 3)).grown (j.u.alloc _) m);have XG:=O ((X4.u.alloc (.cells #[U y] 3)).grown (j.u.alloc _) m);have OG:=O x;clear x m a4 a9 a2 j t a8 H X4;go_wp2_with fail;go_roundw;case rel=>
       have h1:=V.u;have v:=G.u;simp only[D9,J1]at h1 v;refine⟨aa,[y],P,a3,c2,by simp,by omega,(by have h3:=NX.u;simp_all),NG.u,XG.u,KG.u,⟨by omega,by omega,by omega,by omega⟩,?_,?_,VN.u⟩<;>grind[World.ownsRow,C7]
      case measure=>
       have v:=G.u;have h3:=PG.u.jq;grind[D9]
   .have b6:(0:Int)<(e.length:Int):=by omega
    have HN:=I2 hL l [44];go_wp2_with fail;refine HN.mono ?_;clear HN;rintro ae b2 ⟨f,hr⟩;have R:=O (z.u.andThen (f.mono λ_ h=>h.1));have N6:=O (N3.u.kept f);have X6:=O (X3.u.jv (f.lh (lo:=0)));have O6:=O (F8 M.u f (by decide));clear f z M l N3 X3;obtain⟨hb,rfl,l⟩|⟨hb,rfl⟩:=hr
    .have b4:=l.at';have W:Hid ((if e.length=0 then some (.ok i ()) else aB L i [44])=some (Out.ok i.nx ())):=by show _=_;rw[zY hz,aB,hb];rfl
     clear hb;have hj:=V.u.1;have Z:=hC (L.length-i.nx.i) (by grind[St.nx]) b2 _ d i.nx N nb bx T X6.u N6.u (by have h0:=NL.u;omega) (kQ ap R.u.size) (vQ _) (λg k=>⟨aq g (kQ R.u.size k),λhx=>by have:=(O6.u.lt g hx.symm).2;omega⟩) (kQ hB R.u.size) l;clear l;go_wp2_with fail;refine Z.mono ?_;clear Z;rintro ae ak ⟨f,o,a5,a7⟩;have t:=O (R.u.trans (f.mono λ_ h=>h.1));have X4:=O (X6.u.jv f);have j:=O (IC O6.u f (by decide));have F:=O a5;clear f a5 R O6 X6 N6;cases o with
     |fail er p=>
      obtain⟨rfl,he⟩:=a7;exact⟨rfl,IJ t.u (u.u _ (W8 S.u W.u (Ev.bad F.u))) he⟩
     |ok P al=>
      obtain⟨rfl,a6,n,k⟩:=a7;have NX:=O (iK ar F.u);obtain⟨y,aa⟩:=al;have H:=O a6;clear a6;simp only at H NX;have a2:=O n;have G:=O k;have aw:=n.at';clear n k;have VN:=O (λo (ho:Ev L (λr=>r.M q E d P aa (e++[y])) o)=>u.u o (W8 S.u W.u (Ev.bind (k:=λr s ab=>r.M q E d s ab.2 (e++[ab.1])) F.u ho)));clear u;obtain⟨i0,af,ag,ah,ai⟩:=info_parts Tryz.fm;have a9:=O (j.u.alloc (.cells #[U y] 3));have ax:e.length+1<=P.i:=by
       have v:=G.u.1;first|grind[St.nx]|omega
      go_wp2_with (at_builtin;refine wpList_append_own_at _ rfl _ _ 54 rfl w.heap.size 3 i0 (U 0) 1 8 underlying54 af ag ah ai rfl (by decide) _ _ _ rfl a9.u (J ak.heap.size 0) 1 1 [U y] rfl rfl ?c1 ?c2 ?c3 ?c4 ?c5 ?_);case c1=>grind[cell_one_new]
      case c2=>intro az hu;simp at hu;obtain rfl:=hu;rfl
      case c3=>grind[maxLen]
      case c4=>omega
      case c5=>have:=t.u.size;simp;omega
      .intro v' b1 x m _ a4;obtain⟨a3,c2,a8⟩:=B8 x;rw[a8]at x a4⊢;have PG:=O ((a2.u.alloc (.cells #[U y] 3)).grown (v:=.slice A e.length D) (v':=.slice a3 (e.length+1) c2) (j.u.alloc _) (.inl rfl) m (by simp_all));have KG:=O ((t.u.alloc (.cells #[U y] 3)).grown (j.u.alloc _) m);have NG:=O ((H.u.alloc (.cells #[U y] 3)).grown (j.u.alloc _) m);have XG:=O ((X4.u.alloc (.cells #[U y] 3)).grown (j.u.alloc _) m);have OG:=O x;clear x m a4 a9 a2 j t a8 H X4;go_wp2_with fail;go_roundw;case rel=>
        have h1:=V.u;have v:=G.u;simp only[D9,J1,St.nx]at h1 v;refine⟨aa,e++[y],P,a3,c2,by simp,by grind,(by have h3:=NX.u;simp_all),NG.u,XG.u,KG.u,⟨by omega,by omega,by omega,by omega⟩,?_,?_,VN.u⟩<;>grind[World.ownsRow,Q9]
       case measure=>
        have v:=G.u;have h3:=PG.u.jq;grind[D9,St.nx]
    .exact⟨rfl,IJ R.u (u.u _ (QC S.u (by rw[zY hz,aB,hb];rfl))) (by decide)⟩
  .have l:aF aj B b c L (λg=>a g/\some g≠Value.ownBlock (.slice A e.length D)) d i.nx:=by simpa using ac.u
   have PY:=O (l.mono (ok':=a) (λg k _=>k.1));have EV:=O (u.u _ (QG S.u));have GX:=O (show BI s i.nx by
    have v:=V.u;grind[BI,J1,St.nx]);clear u ac l;go_wp2_with fail;go_ret;exact Ij z.u EV.u M.u (by grind[St.nx]) PY.u GX.u
end
section
variable{B a:Nat}{b:Value}{L:List Tk}
theorem heap_alloc_old(w:E)(o){k}(c:k<w.heap.size):(w.alloc o).heap[k]?=w.heap[k]?:=Below.heap_alloc _ _ _ c
def Mg(q:cK L)(m)(hE:∀n,n<=m->bD B a b L 195 (λd s r=>r.expr d s) n):AA B a b L 291 vY m:=by
 intro e w u d s D j k h;have ad:=h.fq;have c:=O (((Kept.refl B u w).alloc (.cells #[pV a] 101)).alloc (.cells #[sN] 29));have P:=O ((h.alloc (.cells #[pV a] 101)).alloc (.cells #[sN] 29));have v:Hid (jH ((w.alloc (.cells #[pV a] 101)).alloc (.cells #[sN] 29)) w.heap.size a):=jH.alloc (yY w _) _;have Z:Hid (fL ((w.alloc (.cells #[pV a] 101)).alloc (.cells #[sN] 29)) w.heap.size (w.heap.size+1) []):=by
  refine⟨by omega,none,0,?_,kW _ _ _ _⟩;have:=yY (w.alloc (.cells #[pV a] 101)) (.cells #[sN] 29);simpa using this
 have V:Hid (∀o,Ev L (λr=>A8 (r.M .obj [125] d s [] []) λs' l=>aD s' (C.mk 10 0 0 0 l [] 0 (-1) e)) o->Ev L (λr=>vY e d s r) o):=λo t=>t;have N:=O (TC 298 (λ_ _=>by rfl) (.inl rfl) q (L.length-s.i) (λn af w u d s lo nb bx a9 a4 hn A a6 D j k h=>Mb q n (λa8 ac=>hE a8 (by omega)) w u d s lo nb bx a9 a4 hn A a6 D j k h) [125] w.heap.size (w.heap.size+1) w.heap.size v.u Z.u (by simp;omega) (vQ _) (λg f=>j g (kQ c.u.size f)) (kQ k c.u.size) P.u);generalize a3:(λr=>vY e d s r)=H at V;have R:Hid (vY e d s=H):=a3;rw[R.u];go_in;go_wp2_with fail;refine N.u.mono ?_;rintro a2 aa ⟨z,o,a5,F⟩;have T:=O (c.u.ku z);have X3:=O (v.u.jv z);have x:=O a5;have hz:=c.u.size;have c:=O T.u;cases o with
 |fail er p=>
  obtain⟨rfl,he⟩:=F;exact⟨rfl,D3 c.u (V.u _ (Ev.bad x.u)) he⟩
 |ok i l=>
  obtain⟨la,lc,rfl,t,A,hp,f⟩:=F;have ae:_/\_/\_/\_:=f;have P:=O hp;have y:=O t;have ab:aa.cell? (J w.heap.size 0)=some (pV a):=cr X3.u rfl;have S:=O (L9 q P.u (C.mk 10 0 0 0 l [] 0 (-1) e) 0 la l.length lc ⟨_,rfl,C8 y.u (wQ _),λg f=>j g (by have:=(A9 y.u g f).1;omega)⟩ rfl (by omega) (kQ k c.u.size) (λg f=>j g (kQ c.u.size f)));have G:=O (V.u _ (Ev.bind x.u Ev.pure));have M:=O (show D9 s ⟨i.i,i.N++[C.mk 10 0 0 0 l [] 0 (-1) e],i.T⟩ by
   grind[D9,qQ,jQ,xQ]);have a7:0<=(i.N.length:Int)/\i.N.length<((i.N++[C.mk 10 0 0 0 l [] 0 (-1) e]).length:Int):=by simp;omega
  go_wp2_with fail;refine S.u.mono ?_;rintro a2 ag ⟨rfl,k9,p9⟩;have W:=O (c.u.trans k9);have P9:=O p9;go_wp2;go_ret;exact F6 W.u G.u P9.u M.u a7
def Wp(D:cK L)(a2)(hK:∀Z,Z<=a2->bD B a b L 197 (λd s r=>r.block d s) Z):AA B a b L 290 (vR L) a2:=by
 intro q w M d s hm z A h;have ai:=h.fq;have c:=O ((Kept.refl B M w).alloc (.cells #[pV a] 101));have P:=O (h.alloc (.cells #[pV a] 101));have BX:Hid (jH (w.alloc (.cells #[pV a] 101)) w.heap.size a):=yY w _;have V:Hid (∀o,Ev L (λr=>A8 (aB L s [40]) λs1 _=>A8 (r.M .par [41] d s1 [] []) λN l=>A8 (aY L r d N) λy t=>A8 (r.block d y) λs4 x=>aD s4 (C.mk 6 x 0 0 l [] 0 t q)) o->Ev L (λr=>vR L q d s r) o):=λo H=>H;have n:=O (I2 D P.u [40]);generalize a8:(λr=>vR L q d s r)=FF at V;have a4:Hid (vR L q d s=FF):=a8;rw[a4.u];go_in;go_wp2_with fail;refine n.u.mono ?_;rintro e G ⟨i,hr⟩;have k:=O (c.u.trans i);have X1:=O (BX.u.jv (i.lh (lo:=0)));have ap:w.heap.size<G.heap.size:=by have:=i.size;simp at this;omega
 have c:=O k.u;obtain⟨W,rfl,j⟩|⟨W,rfl⟩:=hr;case inr=>exact⟨rfl,D3 c.u (V.u _ (Ev.bad (S5 W))) (by decide)⟩
 replace V:=O (Ev.vb V.u (M6 W));have ab:=j.at';simp only[St.nx]at ab;have k:=O (c.u.alloc (.cells #[sN] 29));have P:=O (j.alloc (.cells #[sN] 29));have R:=O (X1.u.alloc (.cells #[sN] 29));have a5:G.cell? (J w.heap.size 0)=some (pV a):=cr X1.u rfl;have NM:Hid (fL (G.alloc (.cells #[sN] 29)) w.heap.size G.heap.size []):=⟨by omega,none,0,yY _ _,kW _ _ _ _⟩;have c:=O k.u;have n:=O (TC 297 (λ_ _=>by rfl) (.inr rfl) D (L.length-s.nx.i) (λZ ao w M d s lo nb bx ae a9 hn hl ac hm z A h=>xz D w M d s lo nb bx ae a9 hn hl ac z A h) [41] w.heap.size G.heap.size w.heap.size R.u NM.u (by simp;omega) (vQ _) (λg f=>z g (kQ c.u.size f)) (kQ A c.u.size) P.u);go_wp2_with fail;refine n.u.mono ?_;rintro e af ⟨i,o,u,v⟩;have k:=O (c.u.ku i);have S:=O (R.u.jv i);have m:=O u;have hz:=c.u.size;clear i u n c R a5;have c:=O k.u;clear k;cases o with
 |fail er p=>
  obtain⟨rfl,F⟩:=v;exact⟨rfl,D3 c.u (V.u _ (Ev.bad m.u)) F⟩
 |ok s1 l=>
  obtain⟨la,lc,rfl,H,hl,j,f⟩:=v;have aa:_/\_/\_/\_:=f;simp only[St.nx]at aa;have O1:=O H;have al:=j.at';have a6:af.cell? (J w.heap.size 0)=some (pV a):=cr S.u rfl;replace V:=O (Ev.vb V.u m.u);clear m;have n:=O (LF D j (λg f=>z g (kQ c.u.size f)) (kQ A c.u.size));clear j H f;go_wp2_with fail;refine n.u.mono ?_;rintro e a3 ⟨i,o,u,v⟩;have k:=O (c.u.trans i);have T:=O (S.u.jv (i.lh (lo:=0)));have O4:=O (F8 O1.u i (by decide));have m:=O u;clear i u n c S O1 a6;have c:=O k.u;clear k;cases o with
  |fail er p=>
   obtain⟨rfl,F⟩:=v;exact⟨rfl,D3 c.u (V.u _ (Ev.bad m.u)) F⟩
  |ok N t=>
   obtain⟨rfl,j,f⟩:=v;have aj:_/\_/\_/\_:=f;have am:=j.at';have a7:a3.cell? (J w.heap.size 0)=some (pV a):=cr T.u rfl;replace V:=O (Ev.vb V.u m.u);clear m;have n:=O (hK (L.length-N.i) (by omega) a3 M d N (vQ _) (λg f=>z g (kQ c.u.size f)) (kQ A c.u.size) j);clear j f;go_wp2_with fail;refine n.u.mono ?_;rintro e ag ⟨i,o,u,v⟩;have k:=O (c.u.trans i);have X5:=O (T.u.jv (i.lh (lo:=0)));have O5:=O (F8 O4.u i (by decide));have m:=O u;clear i u n c T O4 a7;have c:=O k.u;clear k;cases o with
   |fail er p=>
    obtain⟨rfl,F⟩:=v;exact⟨rfl,D3 c.u (V.u _ (Ev.bad m.u)) F⟩
   |ok y x=>
    obtain⟨rfl,j,f,hx⟩:=v;have ak:_/\_/\_/\_:=f;have an:=j.at';have ah:ag.cell? (J w.heap.size 0)=some (pV a):=cr X5.u rfl;have HX:=O (Q6 D j (C.mk 6 x 0 0 l [] 0 t q) la l.length lc ⟨_,rfl,C8 O5.u (wQ _),λg f=>z g (by have:=(A9 O5.u g f).1;omega)⟩ (by omega) (kQ A c.u.size) (λg f=>z g (kQ c.u.size f)));have EV:=O (V.u _ (Ev.bind (k:=λr s4 x=>aD s4 (C.mk 6 x 0 0 l [] 0 t q)) m.u Ev.pure));have GX:=O (show D9 s ⟨y.i,y.N++[C.mk 6 x 0 0 l [] 0 t q],y.T⟩ by
     grind[D9,qQ,jQ,xQ]);have ad:(0:Int)<=(y.N.length:Int)/\(y.N.length:Int)<((y.N++[C.mk 6 x 0 0 l [] 0 t q]).length:Int):=by simp;omega
    clear j f V;go_wp2_with fail;refine HX.u.mono ?_;rintro e aq ⟨rfl,k9,p9⟩;have K9:=O (c.u.trans k9);have P9:=O p9;clear k9 p9 HX;go_wp2_with fail;go_ret;exact F6 K9.u EV.u P9.u GX.u ad
def LG(B a:Nat)(b:Value)(L:List Tk)(m:Nat):Prop:=
 bD B a b L 270 (λd s r=>r.oper d s) m/\bD B a b L 195 (λd s r=>r.expr d s) m/\
 bD B a b L 197 (λd s r=>r.block d s) m/\bD B a b L 68 (λd s r=>r.gd d s) m
def Mr(f:cK L)(t:AK L):∀m,LG B a b L m:=by
 intro m;induction m using Nat.strongRecOn with
 |ind m i=>
  have k:=λc h=>(i c h).2.1;have w:=Ge f t m k (λc h=>Wp f c (λg j=>(i g (by omega)).2.2.1)) (λc h=>Mg f c (λg j=>k g (by omega)));have n:=Mu f m (λc h=>(i c h).1) w (λc h=>Zf f c (λg j=>k g (by omega)));have u:∀c,c<=m->bD B a b L 270 (λd s r=>r.oper d s) c:=λc h=>if e:c=m then e ▸ n else (i c (by omega)).1;have v:∀c,c<=m->_:=λc h=>Nh f c (λg j=>u g (by omega));have y:∀c,c<=m->_:=λc h=>Xj f c (λg j=>v g (by omega));have l:=Bg f m (A0b f m (λc h=>y c h));have q:∀c,c<=m->bD B a b L 195 (λd s r=>r.expr d s) c:=λc h=>if e:c=m then e ▸ l else k c (by omega);have p:=Ns f m (λc h=>(i c h).2.2.2);have o:=Jx f (λd s z x h=>vj d s z x h) m q (λc h=>(i c h).2.2.1);exact⟨n,l,p,zj f m o⟩
end
