/-
  A part of the proof.
-/
import Derived.Test.YteocidgdmjaffaaGreatDoorRunD
set_option maxHeartbeats 0
set_option linter.all false
set_option maxRecDepth 100000
namespace Go.Proofs.YteocidgdmjaffaaGreatDoor
open Go.Proofs.Tryz
open Go.RowKit Go.Maps
section
variable{b w j:E}{a d i e z:Nat}{h:Value}{G:Int->Option Int}{c:Cx}{s:Ms}{g f:Gh}
def Kj(k:Nat)(l:Ms)(f:Gh)(_:E)(v:Value):Prop:=k<l.c.S.length/\v=.pointer (pad f.sb (some k))
theorem Om{k:Type}(l:List k)(n):(l.drop n).tail=l.drop (n+1):=by simp
theorem yq{m:Type}(l:List m)(n)(k):(l.drop n).headD k=l[n]?.getD k:=by
 simp
theorem KS{n o q}(m:X n)(k)(l:o->X q):(m.bd k).bd l=m.bd λp=>(k p).bd l:=by
 funext s;grind[X.bd]
theorem Ik(p)(l:bZ)(m:List Vl)(k)(s):((hG G (p::l) m k).bd λ_=>aE k) s=((dL G p (m.headD vO)).bd λv=>(dY k p v).bd λ_=>(hG G l m.tail k).bd λ_=>aE k) s:=by
 simp_all[hG,KS]
def Lz(hS:eN b c d i h)(am:Rm b w a d e G c.N s g z)(hz:z+4000<=1000000000){sc:Option Nat}(bb:hY s.c sc){k}{la:Option Addr}{lc}(hl:b.ownsRow 0 3 1 (.slice la k.length lc) k.length (C7 k))(b7:∀bd∈k,0<=bd/\bd<c.N.length)(hn:k.length<=1200){l:List Vl}{aa}{ad:Option Addr}{ac}(az:∀u∈l,bF s.c u)(ba:fT w g aa (.slice ad l.length ac) l){R:Rr Nat}
 (hR:R=((eX sc).bd λo=>(hG G k l o).bd λ_=>aE o) s):
 Calls prog 235 #[pV a,.slice la k.length lc,.slice ad l.length ac,.pointer (pad g.sb sc)] w (RP b a d e G c.N (z+2400) w g s Kj R):=by
 have aw:=O (SG am bb);have HL:=O hl;have bj:=O b7;have HR:=O hR;have HH:=O am;have ab:=O az;have ax:=O ba;have c7:=hS.ok.fh;have a3:=O uH;clear am hl b7 hR az ba bb hS;generalize pad g.sb sc=cb at*;go_in;go_wp2_with fail;refine aw.u.mono ?_;rintro r ar hq;obtain⟨P,rfl,Z⟩|⟨o,s1,m,cc,rfl,e1,-,ak,bh,al,hj,rfl⟩:=RP.cut (K':=Kj) (λo=>(hG G k l o).bd λ_=>aE o) hq
 .have:RP b a d e G c.N (z+2400) w g s Kj R (.panicked P) ar:=by rw[HR.u];exact Z.more (by omega)
  exact⟨rfl,this⟩
 have an:=HR.u;rw[e1]at an;obtain⟨L,hb⟩:∃L,pad m.sb (some o)=some (J L 0):=⟨_,rfl⟩;have ae:=O hb;have bo:=O (ax.u.et HH.u ak ab.u);have bi:Hid (∀u∈l,bF s1.c u):=λu x=>(ab.u u x).gr al;have bn:=O an;have R1:=O bh;have F1:=O ak;have G1:=O al;have HJ:=O hj;rw[hb];clear hq e1 an ak bh al hj hb aw HR ax ab;go_wp2_with fail;go_loopw [17] (λaq wr=>∃(n:Nat) (F:Ms),n<=k.length/\aq=U (n:Int)/\Hid (R=((hG G (k.drop n) (l.drop n) o).bd λ_=>aE o) F)/\Hid (Rm b wr a d e G c.N F m (z+2*n))/\Hid (aH b a ar m wr m)/\Hid (Gr s1.c F.c)/\Hid (fT wr m aa (.slice ad l.length ac) l)) (λaq _=>k.length-(intOf aq).toNat);case atStart=>exact⟨0,s1,wQ _,rfl,bn,R1,aH.y (I.refl _ _),Gr.refl _,bo⟩
 case round=>
  obtain⟨n,F,c9,rfl,a4,q,H,t,T⟩:=hrel;by_cases b8:n<k.length
  .have hx:=bj.u k[n] (mQ b8);have ap:0<=k[n]/\k[n]<=1000000:=by omega
   have a2:=a4.u;rw[List.drop_eq_getElem_cons b8,Ik,Om,yq]at a2;have b4:=A3 HL.u q.u.P λ_ _ a9=>a9;obtain⟨gl,bt,-,c5,bz,bp,b3⟩:=D4 b4 (by omega);subst bt;have v0:=b3 n (U k[n]) (by grind[C7]);have ao:=yQ HJ.u t.u.S;have b0:=λu x=>(bi.u u x).gr t.u;obtain⟨b',a8,bg,a7,p3,-,-,D,-,-⟩:=q.u.scope (gQ ao);rw[ae.u]at bg;cases bg;obtain⟨u,x⟩:∃u,u=l[n]?.getD vO:=⟨_,rfl⟩;rw[<-x]at a2;have bv:bF F.c u:=by
    rw[x];cases r:l[n]? with
    |none=>grind[xD]
    |some y=>grind
   have bc:∀ag,I No wr ag->Calls prog 132 #[pV a,U k[n],.agg #[U u.g,.int .i32 u.n,.string ⟨u.t.toArray⟩,.pointer (pad m.tb u.h)]] ag λr A=>(∃P,r=.panicked P/\RP b a d e G c.N (z+2400) w g s Kj R (.panicked P) A)\/∃B,r=.returned (.agg #[U u.g,.int .i32 u.n,.string ⟨u.t.toArray⟩,.pointer (pad m.tb u.h)])/\A.cell? (J L 0)=some (.map (some a8))/\L<A.heap.size/\(Instr.mapUpdate 145 (.map (some a8)) (U k[n]) (.agg #[U u.g,.int .i32 u.n,.string ⟨u.t.toArray⟩,.pointer (pad m.tb u.h)])).run prog A=.ok () B/\
    Hid (∃S,R=((hG G (k.drop (n+1)) (l.drop (n+1)) o).bd λ_=>aE o) S/\Rm b B a d e G c.N S m (z+2*(n+1))/\aH b a ar m B m/\Gr s1.c S.c/\fT B m aa (.slice ad l.length ac) l):=by
    intro ag hW;have a6:=aH.y (wB:=b) (mb:=a) (g:=m) hW;refine(YZ (q.u.y hW) (by omega) k[n] ap u).mono ?_;rintro r A ⟨a5,v⟩;cases M:dL G k[n] u F with
    |stk=>rw[M]at v;exact v.elim
    |back u s1=>rw[M]at v;exact v.elim
    |over y k' s3=>
     rw[M]at v;obtain⟨rfl,rfl,h4⟩:=v;refine .inl ⟨_,rfl,?_⟩;rw[a2,I1 M];exact⟨m,[],rfl,F1.u.trans (H.u.trans (a6.trans a5)),h4.more (by omega)⟩
    |ok y s3=>
     rw[M]at v;obtain⟨rfl,b1,-,rfl,h4⟩:=v;have bs:o<s3.c.S.length:=by rw[b1];exact ao
     obtain⟨b',r',t1,t2,t3,B,t4,t5,t6⟩:=h4.j2 (gQ bs) ap (v:=y) (by grind) (by omega);rw[ae.u]at t1;cases t1;have b2:A.cell? (J L 0)=some (.map (some a8)):=by
      have:=(a6.trans a5).qh q.u p3;unfold World.cell? at D⊢;simp only at D⊢;rw[this];exact D
     have hr:r'=a8:=by
      rw[b2]at t3;simpa using t3.symm
     subst hr;refine .inr ⟨B,rfl,b2,t2,t4,pS s3 o k[n] y,?_,by omega,H.u.trans ((a6.trans a5).trans t6),?_,T.u.et q.u ((a6.trans a5).trans t6) b0⟩
     .rw[a2,I5 M,I5 (show dY o k[n] y s3=.ok () (pS s3 o k[n] y) from rfl)]
     .have:=t.u;rw[<-b1]at this;exact this.trans (sU o _)
   have af:=O bc;have ay:=O x;unfold maxLen at bp;have c8:(n:Int)<(k.length:Int):=by omega
   clear b3 b4 hx ap a2 a4 bc ao b0 bv x p3;generalize k[n]=a9 at*;by_cases b9:n<l.length
   .have bu:(n:Int)<(l.length:Int):=by omega
    go_wp2_with fail;refine(a3.u _).mono ?_;rintro r au ⟨rfl,p⟩;have b6:=A3 T.u.1 p λ_ _ a9=>a9;obtain⟨gh,br,-,c6,c4,bq,W⟩:=D4 b6 (by omega);subst br;obtain⟨ah,ai,aj,c3⟩:=LL (tb:=m.tb) (gQ b9);have N:=ay.u;rw[gQ b9,Option.getD_some]at N;rw[<-N]at ah ai aj c3;have d0:=W _ _ ah;have d1:=W _ _ ai;have d2:=W _ _ aj;have d3:=W _ _ c3;have bx:=A4 p D;have bw:=yQ a7 p.size;have CA:=O (B6 p (I.alloc No au (.cells #[U u.g,.int .i32 u.n,.string ⟨u.t.toArray⟩,.pointer (pad m.tb u.h)] 150)));unfold maxLen at bq;clear b6 W ah ai aj c3 N p D a7 a3 T q H t;go_wp2_with fail;go_region_with (go_at_call 132;refine(af.u _ (B6 CA.u (I.drewN No _ 1))).mono ?_;rintro r A (⟨P,rfl,Z⟩|⟨B,rfl,e1,e2,e3,E4⟩);exact⟨rfl,Z⟩);all_goals go_wp2_with fail
    all_goals
     obtain⟨S,be,p,bf,k4,k5⟩:=E4.u;exact⟨⟨n+1,S,by omega,by go_num,be,p,bf,k4,k5⟩,by grind[intOf]⟩
   .have bu:¬(n:Int)<(l.length:Int):=by omega
    go_wp2_with fail;refine(a3.u _).mono ?_;rintro r au ⟨rfl,p⟩;have N:=ay.u;rw[List.getElem?_eq_none (by omega),Option.getD_none]at N;have bx:=A4 p D;have bw:=yQ a7 p.size;have CA:=O (B6 p (I.alloc No au (.cells #[U 8,.int .i32 0,.string ⟨#[]⟩,.pointer none] 150)));subst N;clear p D a7 a3 T q H t;simp only[vO,pad,Option.map_none]at af;go_wp2_with fail;go_region_with (go_at_call 132;refine(af.u _ (B6 CA.u (I.drewN No _ 1))).mono ?_;rintro r A (⟨P,rfl,Z⟩|⟨B,rfl,e1,e2,e3,E4⟩);exact⟨rfl,Z⟩);all_goals go_wp2_with fail
    all_goals
     obtain⟨S,be,p,bf,k4,k5⟩:=E4.u;grind[intOf]
  .have b5:n=k.length:=by omega
   have V:=a4.u;rw[b5,List.drop_length]at V;replace V:R=.ok o F:=V;have bm:Hid (RP b a d e G c.N (z+2400) w g s Kj R (.returned (pV L)) wr):=by
    show RP _ _ _ _ _ _ _ _ _ _ _ _ _ _;rw[V];exact⟨m,_,rfl,F1.u.trans H.u,q.u.more (by omega),G1.u.trans t.u,yQ HJ.u t.u.S,by rw[ae.u]⟩
   have ca:¬(n:Int)<(k.length:Int):=by omega
   clear V b5 a4 q H t T;go_wp2;go_ret;exact bm.u
end
def xd(q)(f g)(i)(h)(a b c d)(j)(w:E)(l:w.cell? (J q 0)=some a)(t:w.cell? (J q 1)=some b)(u:w.cell? (J q 2)=some c)(x:w.cell? (J q 3)=some d)(A:∀o,w.frozen? (J q o)=false):
 CallsD prog 234 #[pV q] (.panicking ({v:=.iface 156 (.agg #[U f,.int .i32 g,.string i,.pointer h]),recovered:=false}::j)) w λe n p=>
  e=rT/\n=.panicking ({v:=.iface 156 (.agg #[U f,.int .i32 g,.string i,.pointer h]),recovered:=true}::j)/\p=((((w.setCell (J q 0) (U f)).setCell (J q 1) (.int .i32 g)).setCell (J q 2) (.string i)).setCell (J q 3) (.pointer h)).alloc (.cells #[U f,.int .i32 g,.string i,.pointer h] 156):=by
 refine callsD_of_wpS func234 rfl λs r m=>?_;apply wpS_seq;apply wpS_region;simp[wpOpsS,go_sem,recoverD,m,ntmps234,Exit.thenS];refine wpS_of_wp ?_;have z:∀w:E,(Instr.typeAssert (.iface 156 (.agg #[U f,.int .i32 g,.string i,.pointer h])) 20 156 true).run prog w=.ok (.tuple #[.agg #[U f,.int .i32 g,.string i,.pointer h],.bool true]) w:=λ_=>by kernel_rfl
 have k:(#[pV q]++((Array.replicate 15 undef).setIfInBounds 3 (.iface 156 (.agg #[U f,.int .i32 g,.string i,.pointer h]))).setIfInBounds 0 (.iface 156 (.agg #[U f,.int .i32 g,.string i,.pointer h])):Array Value)=#[pV q,.iface 156 (.agg #[U f,.int .i32 g,.string i,.pointer h]),undef,undef,.iface 156 (.agg #[U f,.int .i32 g,.string i,.pointer h]),undef,undef,undef,undef,undef,undef,undef,undef,undef,undef,undef]:=rfl;rw[k];have y:=World.block_lt_of_cell? w _ l;go_wp2;exact⟨rfl,_,rfl,_,by simp[results,results234],rfl,rfl,rfl⟩
def xh(q)(w:E):
 CallsD prog 234 #[pV q] .returning w λe d f=>
  e=rT/\d=.returning/\I No w f:=by
 refine callsD_of_wpS func234 rfl λb g a=>?_;apply wpS_seq;apply wpS_region;simp[wpOpsS,go_sem,recoverD,a,ntmps234,Exit.thenS];refine wpS_of_wp ?_;have h:∀w:E,(Instr.typeAssert .nilIface 20 156 true).run prog w=.ok (.tuple #[.agg #[U 0,.int .i32 0,.string ⟨#[]⟩,.pointer none],.bool false]) w:=λ_=>by kernel_rfl
 have c:(#[pV q]++((Array.replicate 15 undef).setIfInBounds 3 .nilIface).setIfInBounds 0 .nilIface:Array Value)=#[pV q,.nilIface,undef,undef,.nilIface,undef,undef,undef,undef,undef,undef,undef,undef,undef,undef,undef]:=rfl;rw[c];go_wp2;cases b;simp only at a;subst a;exact⟨rfl,_,rfl,_,by simp[results,results234],rfl,rfl,I.alloc _ _ _⟩
def xo(q)(a i)(b)(w:E):
 CallsD prog 234 #[pV q] (.panicking ({v:=.iface 64 (.agg #[U a,U i]),recovered:=false}::b)) w λe f g=>
  e=.panicked [{v:=.iface 64 (.agg #[U a,U i]),recovered:=false}]/\f=.panicking ({v:=.iface 64 (.agg #[U a,U i]),recovered:=true}::b)/\I No w g:=by
 refine callsD_of_wpS func234 rfl λj h d=>?_;apply wpS_seq;apply wpS_region;simp[wpOpsS,go_sem,recoverD,d,ntmps234,Exit.thenS];refine wpS_of_wp ?_;have k:∀w:E,(Instr.typeAssert (.iface 64 (.agg #[U a,U i])) 20 156 true).run prog w=.ok (.tuple #[.agg #[U 0,.int .i32 0,.string ⟨#[]⟩,.pointer none],.bool false]) w:=λ_=>by kernel_rfl
 have c:(#[pV q]++((Array.replicate 15 undef).setIfInBounds 3 (.iface 64 (.agg #[U a,U i]))).setIfInBounds 0 (.iface 64 (.agg #[U a,U i])):Array Value)=#[pV q,.iface 64 (.agg #[U a,U i]),undef,undef,.iface 64 (.agg #[U a,U i]),undef,undef,undef,undef,undef,undef,undef,undef,undef,undef,undef]:=rfl;rw[c];go_wp2;exact⟨rfl,_,rfl,rfl,rfl,I.alloc _ _ _⟩
section
variable{b w e:E}{a pb h gq z:Nat}{f:Value}{G:Int->Option Int}{c:Cx}{s:Ms}{g d:Gh}
theorem Di{j l}(i)(k:j->X l):(aE i).bd k=k i:=rfl
def zk{p w2}{q}{tmps}{m:X (List Vl)}{R}{ps}(W:tmps[6]?=some (pV q))(hb:p.heap[q]?=some (.cells #[U 0,.int .i32 0,.string ⟨#[]⟩,.pointer none] 150 (0,0)))(ho:g.ow q=none)(hq:w.heap.size<=q)(B:q≠a)(Z:b.heap.size<=q)(y:aH b a w g p g)(l:R=m.cat s)
 (j:RP b a pb gq G c.N z p g s Kn (m s) (.panicked ps) w2):Leaves prog Tryz.f217 tmps (RP b a pb gq G c.N z w g s Kv R) [{target:=.fn (.func 234) #[pV q],args:=#[]}] (.panicking ps) w2:=by
 unfold X.cat at l;cases n:m s with
 |stk=>rw[n]at j;exact j.elim
 |ok a6 F=>
  rw[n]at j;obtain⟨d,v,k,_⟩:=j;grind
 |over x i F=>
  rw[n]at j l;obtain⟨d,D,k,o,r⟩:=j;unfold ov at k;simp at k;subst k;refine leaves_cons (f:=234) (args:=#[pV q]) (by simp) (by simp[go_sem]) ?_;refine(xo q x i _ w2).mono ?_;rintro S u' a5 ⟨rfl,rfl,A⟩;simp;rw[l];exact⟨d,{v:=.iface 64 (.agg #[U x,U i]),recovered:=true}::D,rfl,y.trans (o.trans (aH.y A)),r.y A⟩
 |back u F=>
  rw[n]at j l;obtain⟨d,D,k,o,r,T,V⟩:=j;unfold bk bN at k;simp at k;subst k;obtain⟨t,P⟩:=o.et hb ho B (by decide) (by decide);obtain⟨H,L,M,N,yz,yl⟩:=dU t (I.refl No _);refine leaves_cons (f:=234) (args:=#[pV q]) (by simp) (by simp[go_sem]) ?_;refine(xd q u.g u.n ⟨u.t.toArray⟩ (pad d.tb u.h) _ _ _ _ [] w2 H L M N yz).mono ?_;rintro S u' a5 ⟨rfl,rfl,rfl⟩;have a4:RP b a pb gq G c.N z w g s Kv R (.returned (.agg #[U u.g,.int .i32 u.n,.string ⟨u.t.toArray⟩,.pointer (pad d.tb u.h)])) (((((w2.setCell (J q 0) (U u.g)).setCell (J q 1) (.int .i32 u.n)).setCell (J q 2) (.string ⟨u.t.toArray⟩)).setCell (J q 3) (.pointer (pad d.tb u.h))).alloc (.cells #[U u.g,.int .i32 u.n,.string ⟨u.t.toArray⟩,.pointer (pad d.tb u.h)] 156)):=by
   rw[l];exact⟨d,_,rfl,((y.trans o).gm hq _ _ _ _).trans (aH.y (I.alloc _ _ _)),(r.gm t P Z B _ _ _ _).y (I.alloc _ _ _),T,u,rfl,V,rfl⟩
  simp;refine⟨_,?_,a4⟩;simp[results,results217,go_sem,W,H,L,M,N,yl]
def jC(c:Cx)(G:Int->Option Int)(k:Nat)(t:Th)(i:List Vl):X (List Vl):=(eX t.sc).bd λj=>(hG G (aC c.N t.nd).M i j).bd λ_=>rn c.N (aP c) G k (.b (aC c.N t.nd).a) (some j)
def iq(k)(t)(i:List Vl):jC c G k t i=((eX t.sc).bd λj=>(hG G (aC c.N t.nd).M i j).bd λ_=>aE j).bd λj=>rn c.N (aP c) G k (.b (aC c.N t.nd).a) (some j):=by
 grind[jC,KS,Di]
def RP.rp{o}{p}{r:Rr o}{N}{q}(j:RP b a pb gq G N z w g s p r q e):∃d,aH b a w g e d:=by
 cases r with
 |stk=>exact j.elim
 |ok y n=>obtain⟨d,v,k,l,m⟩:=j;grind
 |over x i n=>obtain⟨d,t,k,l,m⟩:=j;grind
 |back u n=>obtain⟨d,t,k,l,m⟩:=j;grind
def iw{k}(y:eN b c pb h f)(hB:lB b a pb gq G c k){n}(L:Rm b n a pb gq G c.N s g z)(hz:z+4000<=1000000000){t:Th}(ae:hY s.c t.sc){i}(A:i<c.N.length)(a8:t.nd=i)(a5:c.N[i].x=6){Z}{lc}(hl:b.ownsRow 0 3 1 (.slice Z c.N[i].M.length lc) c.N[i].M.length (C7 c.N[i].M)){l}{a2}{D}{B}(S:∀ah∈l,bF s.c ah)(ab:fT n g a2 (.slice D l.length B) l)(aa:jC c G k t l s≠.stk){KP:E->Prop}(N:∀e d,aH b a n g e d->KP e):
 ∀W,I No n W->Calls prog 235 #[pV a,.slice Z c.N[i].M.length lc,.slice D l.length B,.pointer (pad g.sb t.sc)] W λm u=>(∃o,m=.panicked o/\RP b a pb gq G c.N (z+2400) n g s Kn (jC c G k t l s) (.panicked o) u)\/∃pj,m=.returned (.pointer pj)/\KP u/\
  Hid (∀v,I No u v->Calls prog 34 #[pV a,U c.N[i].a,.pointer pj] v λm p=>(∃o,m=.panicked o/\RP b a pb gq G c.N (z+2400) n g s Kn (jC c G k t l s) (.panicked o) p)\/m=rT/\KP p/\Hid (RP b a pb gq G c.N (z+2400) n g s Kn (jC c G k t l s) (rT) p)):=by
 intro W P;have r:=aH.y (wB:=b) (mb:=a) (g:=g) P;obtain⟨af,al,ag⟩:=(y.ok.ep i A).k6 a5;have a9:aC c.N t.nd=c.N[i]:=by rw[a8,B9 A]
 have a7:∀x∈c.N[i].M,0<=x/\x<c.N.length:=λx hx=>by
  obtain⟨j,rfl,h1,h2,_⟩:=af x hx;omega
 obtain⟨ja,ai,_,ak,aj⟩:=ag;have a6:=y.ok.ls i A;refine(Lz y (L.y P) hz ae hl a7 a6 S (ab.et L r S) rfl).mono ?_;rintro m u hq;have q:=iq (c:=c) (G:=G) k t l;rw[a9]at q;obtain⟨o,rfl,hh⟩|⟨j,s2,g2,am,rfl,F,-,H,r2,a4,hj,rfl⟩:=RP.cut (λj=>rn c.N (aP c) G k (.b c.N[i].a) (some j)) hq
 .refine .inl ⟨o,rfl,?_⟩;rw[q];exact hh.pre r (Gr.refl _)
 .refine .inr ⟨pad g2.sb (some j),rfl,N _ _ (r.trans H),λv R=>?_⟩;have T:=aa;rw[q,F]at T;refine(lB.at hB (r2.y R) (by omega) (λj' m=>by grind) ⟨by omega,by omega,by grind[B9]⟩ rfl T).mono ?_;rintro m p M;have V:RP b a pb gq G c.N (z+2400) n g s Kn (jC c G k t l s) m p:=by
   rw[q,F];exact M.pre ((r.trans H).trans (aH.y R)) a4
  obtain⟨o,rfl⟩|rfl:=M.ends
  .grind
  .obtain⟨g3,a3⟩:=V.rp;exact .inr ⟨rfl,N _ _ a3,V⟩
def JJ{R:Ending->E->Prop}{m n}(k:m[6]?=n[6]?):∀(j) (u) (w:E),Leaves prog Tryz.f217 m R j u w->Leaves prog Tryz.f217 n R j u w
 |[],.returning,w,i=>by
  obtain⟨v,H,A⟩:=i;refine⟨v,?_,A⟩;simp_all[results,results220]
 |[],.panicking c,w,i=>i
 |[],.run,w,i=>i
 |F::j,u,w,i=>by
  obtain⟨D,y,p,x,o,r,t,B⟩:=i;refine⟨D,y,p,x,o,r,t,B.mono λq M e l=>?_⟩;cases q with
  |returned v=>exact JJ k j _ _ l
  |panicked c=>exact JJ k j _ _ l
  |outgrown=>omega
def sv{m:X (List Vl)}(i:m.cat s≠.stk):m s≠.stk:=λj=>i (by grind[X.cat])
def zn{n w3 w4}{q}{m:X (List Vl)}(H:n.heap[q]?=some (.cells #[U 0,.int .i32 0,.string ⟨#[]⟩,.pointer none] 150 (0,0)))(M:g.ow q=none)(N:w.heap.size<=q)(x:q≠a)(D:b.heap.size<=q)(F:aH b a w g n g)
 (i:RP b a pb gq G c.N z n g s Kn (m s) (rT) w3) (r:I No w3 w4):
 (w4.cell? (J q 0)=some (U 0)/\w4.cell? (J q 1)=some (.int .i32 0)/\w4.cell? (J q 2)=some (.string ⟨#[]⟩)/\w4.cell? (J q 3)=some (.pointer none)/\(∀o,w4.frozen? (J q o)=false)/\q<w4.heap.size)/\
 ∀j,I No ((((w4.setCell (J q 0) (U 8)).setCell (J q 1) (.int .i32 0)).setCell (J q 2) (.string ⟨#[]⟩)).setCell (J q 3) (.pointer none)) j->
  (j.cell? (J q 0)=some (U 8)/\j.cell? (J q 1)=some (.int .i32 0)/\j.cell? (J q 2)=some (.string ⟨#[]⟩)/\j.cell? (J q 3)=some (.pointer none))/\RP b a pb gq G c.N z w g s Kv (m.cat s) (.returned (.agg #[U 8,.int .i32 0,.string ⟨#[]⟩,.pointer none])) j:=by
 cases k:m s with
 |stk=>rw[k]at i;exact i.elim
 |over a8 a5 u=>
  rw[k]at i;obtain⟨_,_,l,_⟩:=i;cases l
 |back a6 u=>
  rw[k]at i;obtain⟨_,_,l,_⟩:=i;cases l
 |ok a4 u=>
  rw[k]at i;obtain⟨d,a7,l,v,A,B,h5⟩:=i;obtain⟨p,y⟩:=(v.trans (aH.y r)).et H M x (by decide) (by decide);obtain⟨R,S,T,V,Z,W⟩:=dU p (I.refl No _);refine⟨⟨R,S,T,V,Z,W⟩,λj t=>?_⟩;have P:=heap_setCell_same _ q 3 _ _ (.pointer none) (heap_setCell_same _ q 2 _ _ (.string ⟨#[]⟩) (heap_setCell_same _ q 1 _ _ (.int .i32 0) (heap_setCell_same w4 q 0 _ _ (U 8) p)));obtain⟨z0,z1,z2,z3,-,-⟩:=dU P t;refine⟨⟨z0,z1,z2,z3⟩,?_⟩;have L:m.cat s=.ok [vO] u:=by unfold X.cat;rw[k]
  rw[L];exact⟨d,_,rfl,((F.trans (v.trans (aH.y r))).gm N _ _ _ _).trans (aH.y t),((A.y r).gm p y D x _ _ _ _).y t,B,vO,rfl,xD _,rfl⟩
def LI(b:E)(a pb gq:Nat)(G:Int->Option Int)(c:Cx)(k:Nat):Prop:=∀(w) (s) (g) (z j:Nat) (t) (n) (i) (B) (m) (l),Rm b w a pb gq G c.N s g z->z+4000<=1000000000->s.c.T[j]?=some t->t.k=64->g.tb[j]?=some n->(∀u∈i,bF s.c u)->fT w g B (.slice m i.length l) i->(jC c G k t i).cat s≠.stk->
 Calls prog 217 #[pV a,pV n,.slice m i.length l] w (RP b a pb gq G c.N (z+2400) w g s Kv ((jC c G k t i).cat s))
def Yu{k}(hS:eN b c pb h f)(hB:lB b a pb gq G c k)(m:Rm b w a pb gq G c.N s g z)(hz:z+4000<=1000000000){j:Nat}{t}(ht:s.c.T[j]?=some t)(hk:t.k=64){l}(ax:g.tb[j]?=some l){p}{ar}{T}{S}(aa:∀b4∈p,bF s.c b4)(am:fT w g ar (.slice T p.length S) p)(al:(jC c G k t p).cat s≠.stk):
 Calls prog 217 #[pV a,pV l,.slice T p.length S] w (RP b a pb gq G c.N (z+2400) w g s Kv ((jC c G k t p).cat s)):=by
 have az:=vM;have ag:=m.ok.T j t ht;obtain⟨ak,b0,af⟩:=ag.nd hk;obtain⟨i,hi⟩:=Int.eq_ofNat_of_zero_le ak;have ae:i<c.N.length:=by omega
 rw[hi,B9 ae]at af;obtain⟨ba,_,hT,_⟩:=m.mem;obtain⟨b',pv,b8,b9,an,b1,Z,_,_,_⟩:=hT j t ht;rw[ax]at an;cases an;have t2:w.cell? (J l 2)=some (U (i:Int)):=by rw[cell_of_row w l 2 _ _ _ Z,<-hi];rfl
 have t3:w.cell? (J l 3)=some (.pointer (pad g.sb t.sc)):=cr Z rfl;have tl:=(aI Z);obtain⟨fz,lt,m0,m1,m2,m3,m4⟩:=m.mc;obtain⟨gn,nc,n,o,q0,q1,q2,q3,q4,q5,⟨x0,x1,x2,x3,x4,x5,x6,x7,x8⟩,ho⟩:=hS.node m ae;obtain⟨ab,V,D⟩:=gV w (.cells #[U 0,.int .i32 0,.string ⟨#[]⟩,.pointer none] 150) (.cells #[U c.N[i].x,U c.N[i].a,U c.N[i].b,U c.N[i].c,.slice n c.N[i].M.length o,.string ⟨c.N[i].text.toArray⟩,U c.N[i].n,U c.N[i].ty,U c.N[i].at'] 85);have W:=aH.y (wB:=b) (mb:=a) (g:=g) D;have H:g.ow w.heap.size=none/\a<w.heap.size/\b.heap.size<=w.heap.size:=⟨m.new (vQ _),m.mc.2.1,m.P.size⟩;have ai:=iw hS hB (m.y D) hz ag.sc ae hi af ho aa (am.et m W aa) (sv al) (KP:=λy=>y.cell? (J (w.heap.size+1) 1)=some (U c.N[i].a)/\y.cell? (J (w.heap.size+1) 4)=some (.slice n c.N[i].M.length o)/\w.heap.size+1<y.heap.size) λe d hf=>by
  obtain⟨-,z1,-,-,z4,-,-,-,-,zl⟩:=nV (w:=w.alloc (.cells #[U 0,.int .i32 0,.string ⟨#[]⟩,.pointer none] 150)) (m.y (I.alloc _ _ _)) hf;simp only[World.size_alloc]at z1 z4 zl;exact⟨z1,z4,zl⟩
 have a2:=O ai;have A:=O (λtmps ps y h6 L=>zk (tmps:=tmps) (ps:=ps) (w2:=y) (m:=jC c G k t p) (pb:=pb) (gq:=gq) (G:=G) (c:=c) (s:=s) (z:=z+2400) h6 ab H.1 (vQ _) (by omega) H.2.2 W rfl L);have N:=O (λap aq L hc=>zn (w3:=ap) (w4:=aq) (m:=jC c G k t p) (pb:=pb) (gq:=gq) (G:=G) (c:=c) (s:=s) (z:=z+2400) ab H.1 (vQ _) (by omega) H.2.2 W L hc);have ah:=O uH;have a3:Hid ((World.drew ((w.alloc (.cells #[U 0,.int .i32 0,.string ⟨#[]⟩,.pointer none] 150)).alloc (.cells #[U c.N[i].x,U c.N[i].a,U c.N[i].b,U c.N[i].c,.slice n c.N[i].M.length o,.string ⟨c.N[i].text.toArray⟩,U c.N[i].n,U c.N[i].ty,U c.N[i].at'] 85))).cell? (J (w.heap.size+1) 1)=some (U c.N[i].a)):=(cell_of_row _ _ 1 _ _ _ V).trans rfl;have a4:Hid ((World.drew ((w.alloc (.cells #[U 0,.int .i32 0,.string ⟨#[]⟩,.pointer none] 150)).alloc (.cells #[U c.N[i].x,U c.N[i].a,U c.N[i].b,U c.N[i].c,.slice n c.N[i].M.length o,.string ⟨c.N[i].text.toArray⟩,U c.N[i].n,U c.N[i].ty,U c.N[i].at'] 85))).cell? (J (w.heap.size+1) 4)=some (.slice n c.N[i].M.length o)):=(cell_of_row _ _ 4 _ _ _ V).trans rfl;have R:=O (A4 (B6 D (I.drewN No _ 1)) t3);change Hid ((World.drew _).cell? _=_) at R;have a5:Hid (w.heap.size+1<(World.drew ((w.alloc (.cells #[U 0,.int .i32 0,.string ⟨#[]⟩,.pointer none] 150)).alloc (.cells #[U c.N[i].x,U c.N[i].a,U c.N[i].b,U c.N[i].c,.slice n c.N[i].M.length o,.string ⟨c.N[i].text.toArray⟩,U c.N[i].n,U c.N[i].ty,U c.N[i].at'] 85))).heap.size):=(aI V);have a6:Hid (l<(World.drew ((w.alloc (.cells #[U 0,.int .i32 0,.string ⟨#[]⟩,.pointer none] 150)).alloc (.cells #[U c.N[i].x,U c.N[i].a,U c.N[i].b,U c.N[i].c,.slice n c.N[i].M.length o,.string ⟨c.N[i].text.toArray⟩,U c.N[i].n,U c.N[i].ty,U c.N[i].at'] 85))).heap.size):=yQ tl D.size;have b7:(i:Int)<(c.N.length:Int):=by omega
 obtain⟨P,hP⟩:∃P,P=RP b a pb gq G c.N (z+2400) w g s Kv ((jC c G k t p).cat s):=⟨_,rfl⟩;rw[<-hP]at A N⊢;generalize pad g.sb t.sc=ps at*;generalize c.N[i]=nd at*;obtain⟨kd,x,vb,vc,v,tx,vn,vt,vp⟩:=nd;simp only at*;subst af;clear hS m ai D ho ab V W H hT b1 Z ag am aa al ak b0 ht hB hP;go_enter_defers func217,ntmps217;go_wp2_with fail;refine Code.wp_mono (Q:=λu a' e=>u=.normal/\a'={tmps:=#[pV a,pV l,.slice T p.length S,undef,undef,undef,pV w.heap.size,pV (w.heap.size+1),.func (Fn.func 234) #[] #[pV w.heap.size],pV a,pV a,pV a,pV pb,pV pb,pV pb,pV pb,.slice (some (J gn 0)) c.N.length nc,pV l,pV l,.pointer (some (J l 2)),U (i:Int),.pointer (some (J gn (i*9))),.agg #[U 6,U x,U vb,U vc,.slice n v.length o,.string ⟨tx.toArray⟩,U vn,U vt,U vp],undef,undef,undef,undef,undef,undef,undef,undef,undef,undef,undef,undef,undef,undef],defers:=[{target:=.fn (.func 234) #[pV w.heap.size],args:=#[]}]}/\e=World.drew ((w.alloc (.cells #[U 0,.int .i32 0,.string ⟨#[]⟩,.pointer none] 150)).alloc (aL 6 x vb vc (.slice n v.length o) tx vn vt vp))) (λu a' e F=>?_) ?_;rotate_left
 .as_aux_lemma=>
   clear a2 A N ah a3 a4 R a5 a6;go_region;exact⟨rfl,rfl,rfl⟩
 obtain⟨rfl,rfl,rfl⟩:=F;go_wp2_with fail;have n1:=a3.u;have n4:=a4.u;have b2:=R.u;have nl:=a5.u;have b3:=a6.u;have M:=O (I.drewN No ((w.alloc (.cells #[U 0,.int .i32 0,.string ⟨#[]⟩,.pointer none] 150)).alloc (aL 6 x vb vc (.slice n v.length o) tx vn vt vp)) 1);change Hid (I _ _ (World.drew _)) at M;generalize World.drew ((w.alloc (.cells #[U 0,.int .i32 0,.string ⟨#[]⟩,.pointer none] 150)).alloc (aL 6 x vb vc (.slice n v.length o) tx vn vt vp))=b6 at n1 n4 b2 nl b3 M⊢;clear t2 t3 tl fz lt m0 m1 m2 m3 m4 q0 q1 q2 q3 q4 q5 x0 x1 x2 x3 x4 x5 x6 x7 x8 a3 a4 R a5 a6 az;have q:∀(a8:Nat) (ao:Value),a8≠6->∀c a7 w,bodyPostD prog Tryz.f217 P (.panic c) (Act.put a7 (some a8) ao) w->bodyPostD prog Tryz.f217 P (.panic c) a7 w:=λa8 ao hd c a7 w m=>JJ (by simp[Act.put,hd]) _ _ _ m;refine wp_region_held_drew (S:=λe=>e.cell? (J (w.heap.size+1) 1)=some (U x)/\e.cell? (J (w.heap.size+1) 4)=some (.slice n v.length o)) (by kernel_rfl) ⟨n1,n4⟩ (λaw=>?_);refine tA (i:=0) (k:=23) (v:=pV a) rfl ?_ (hQ:=q 23 _ (by decide));simp only[Act.put,aT,a0,a1];refine tA (i:=1) (k:=24) (v:=.pointer (some (J (w.heap.size+1) 1))) rfl ?_ (hQ:=q 24 _ (by decide));simp only[Act.put,aT,a0,a1];refine tA (i:=3) (k:=26) (v:=pV a) rfl ?_ (hQ:=q 26 _ (by decide));simp only[Act.put,aT,a0,a1];refine tA (i:=4) (k:=27) (v:=.pointer (some (J (w.heap.size+1) 4))) rfl ?_ (hQ:=q 27 _ (by decide));simp only[Act.put,aT,a0,a1];refine tA (i:=6) (k:=29) (v:=.slice T p.length S) rfl ?_ (hQ:=q 29 _ (by decide));simp only[Act.put,aT,a0,a1];refine tA (i:=7) (k:=30) (v:=pV l) rfl ?_ (hQ:=q 30 _ (by decide));simp only[Act.put,aT,a0,a1];refine tA (i:=8) (k:=31) (v:=pV l) rfl ?_ (hQ:=q 31 _ (by decide));simp only[Act.put,aT,a0,a1];refine tA (i:=9) (k:=32) (v:=.pointer (some (J l 3))) rfl ?_ (hQ:=q 32 _ (by decide));simp only[Act.put,aT,a0,a1];refine tA (i:=2) (k:=25) (v:=U x) rfl ?_ (hQ:=q 25 _ (by decide)) (hy:=.inl ⟨by rfl,λw a9=>by obtain⟨h1,h2⟩:=a9;go_simp⟩);simp only[Act.put,aT,a0,a1];refine tA (i:=5) (k:=28) (v:=.slice n v.length o) rfl ?_ (hQ:=q 28 _ (by decide)) (hy:=.inl ⟨by rfl,λw a9=>by obtain⟨h1,h2⟩:=a9;go_simp⟩);simp only[Act.put,aT,a0,a1];refine wpAnyH_ready (rs:=[10]) (by kernel_rfl) (by simp) ?_;refine AllReadyH.cons (o:=Oper.mk (some 33) _ _ _ _ _) rfl (λB r=>?_) AllReadyH.nil;go_simp;refine r _ _ ⟨n1,n4⟩ (λ_=>?_);clear r B aw;refine wpAnyH_ready (rs:=[11]) (by kernel_rfl) (by simp) ?_;refine AllReadyH.cons (o:=Oper.mk (some 34) _ _ _ _ _) rfl (λB r=>?_) AllReadyH.nil;go_simp;refine(a2.u _ (B6 M.u (I.drewN No _ 1))).mono ?_;rintro u y (⟨qs,rfl,F⟩|⟨pj,rfl,⟨u1,u4,u2⟩,T6⟩)
 .exact A.u _ _ _ rfl F
 refine r _ _ ⟨u1,u4⟩ (λ_=>?_);clear r B;refine wpAnyH_ready (rs:=[12]) (by kernel_rfl) (by simp) ?_;refine AllReadyH.cons (o:=Oper.mk (some 35) _ _ _ _ _) rfl (λB r=>?_) AllReadyH.nil;go_simp;refine(T6.u _ (I.refl _ _)).mono ?_;rintro u ap (⟨qs,rfl,F⟩|⟨rfl,⟨y1,y4,y2⟩,E4⟩)
 .exact A.u _ _ _ rfl F
 refine r _ _ ⟨y1,y4⟩ (λ_=>?_);clear r B;refine wpAnyH_done (by kernel_rfl) ?_ _;clear q;go_wp2_with fail;refine(ah.u _).mono ?_;rintro u aq ⟨rfl,k4⟩;obtain⟨⟨r0,bb,r2,r3,rz,rl⟩,aj⟩:=N.u _ _ E4.u k4;have au:=O aj;clear aj k4 E4 T6 a2 M N A;go_wp2_with fail;refine leaves_cons (f:=234) (args:=#[pV w.heap.size]) (by simp) (by simp[go_sem]) ?_;refine(xh w.heap.size _).mono ?_;rintro u u' b5 ⟨rfl,rfl,ay⟩;obtain⟨⟨z0,z1,z2,z3⟩,L⟩:=au.u b5 ay;simp only[Leaves,settle];refine⟨_,?_,L⟩;simp[results,results217,go_sem,z0,z1,z2,z3]
def sA(i:Int):X Unit:=bU λc=>if c.ca=40 then .over 2 i else .ok () {c with ca:=c.ca+1}
def sB:X Unit:=bU λc=>.ok () {c with ca:=c.ca-1}
def wH(s)(i j):Gr s.c (cS s i j).c:=⟨λ_ t k=>⟨t,k,rfl⟩,vQ _⟩
def ij(k)(t)(i):Ca (jC c G k t i).cat:=.cat (.bd (.kh _) λ_=>.bd (LK _ _ _ _) λ_=>QS _ _ _ _ _ _)
def Zz{m:E}{j:Gh}{i}{q k}{y}{R:Rr (List Vl)}(H:w.heap.size<=q)(x:m.heap[q]?=some (.cells #[U 0,.int .i32 0,.string ⟨#[]⟩,.pointer none] 150 (0,0)))(F:j.ow q=none)(p:q≠a)(u:b.heap.size<=q)(hF:aH b a w g m j)(l:Rm b m a pb gq G c.N i j z)(D:Gr s.c i.c)(L:bF i.c y)(A:i.c.ca=k+1)(v:R=(sB.bd λ_=>aE [y]) i)(o):
 RP b a pb gq G c.N z w g s Kv R (.returned (.agg #[U y.g,.int .i32 y.n,.string ⟨y.t.toArray⟩,.pointer (pad j.tb y.h)])) ((((((m.setCell (J a 3) (U k)).setCell (J q 0) (U y.g)).setCell (J q 1) (.int .i32 y.n)).setCell (J q 2) (.string ⟨y.t.toArray⟩)).setCell (J q 3) (.pointer (pad j.tb y.h))).alloc o):=by
 have P:=l.ok.ca;obtain⟨M,n⟩:=l.mh (s':=cS i k i.c.th) (z':=z) 3 (U k) rfl rfl rfl rfl (FE l.ok (by omega) ⟨vQ _,l.ok.th⟩) (λS N=>by rfl) (by grind[cS]);obtain⟨r,t⟩:=n.et x F p (by decide) (by decide);have B:sB i=.ok () (cS i k i.c.th):=by simp[sB,bU,cS,A]
 rw[v,I5 B];exact⟨j,_,rfl,((hF.trans n).gm H _ _ _ _).trans (aH.y (I.alloc _ _ _)),(M.gm r t u p _ _ _ _).y (I.alloc _ _ _),D.trans (wH _ _ _),y,rfl,L.gr (wH _ _ _),rfl⟩
def Hk{k}(hS:eN b c pb h f)(hV:fD b a pb gq G c k)(bg:∀k',k'<k->fD b a pb gq G c k')(bf:LI b a pb gq G c k)(B:Rm b w a pb gq G c.N s g z)(hz:z+4000<=1000000000){F:Option Nat}(am:hY s.c F){i}(b4:i<c.N.length)(az:c.N[i].x=7){R:Rr (List Vl)}
 (hR:R=((rn c.N (aP c) G k (.v c.N[i].a) F).bd λa8=>(rn c.N (aP c) G k (.vs c.N[i].M) F).bd λhs=>(dX (i:Int) (r1 a8) 64).bd λ_=>(sA (i:Int)).bd λ_=>(eW (r1 a8)).bd λae=>((jC c G k ae hs).cat).bd λr=>sB.bd λ_=>aE r) s) (bn:R≠.stk):
 Calls prog 179 #[pV a,U i,.pointer (pad g.sb F)] w (RP b a pb gq G c.N (z+2400) w g s Kv R):=by
 have bj:=hS.ok.ep i b4;obtain⟨bo,bp⟩:=bj.k7 az;have cq:=hS.ok.ls i b4;obtain⟨fz,lt,m0,m1,m2,m3,m4⟩:=B.mc;obtain⟨gn,nc,la,lc,q0,q1,q2,q3,q4,q5,⟨x0,x1,x2,x3,x4,x5,x6,x7,x8⟩,ho⟩:=hS.node B b4;obtain⟨bh,c8,ca⟩:=gV w (.cells #[U 0,.int .i32 0,.string ⟨#[]⟩,.pointer none] 150) (.cells #[U c.N[i].x,U c.N[i].a,U c.N[i].b,U c.N[i].c,.slice la c.N[i].M.length lc,.string ⟨c.N[i].text.toArray⟩,U c.N[i].n,U c.N[i].ty,U c.N[i].at'] 85);have bi:=aH.y (wB:=b) (mb:=a) (g:=g) ca;have b5:g.ow w.heap.size=none/\a<w.heap.size/\b.heap.size<=w.heap.size:=⟨B.new (vQ _),B.mc.2.1,B.P.size⟩;have bs:=O b5;have a6:Hid (∀v l,aH b a _ g v l->_):=λv l hf=>hf.et bh b5.1 (by omega) (by decide) (by decide);have a4:Hid (∀v l,aH b a _ g v l->_):=λv l hf=>nV (w:=w.alloc (.cells #[U 0,.int .i32 0,.string ⟨#[]⟩,.pointer none] 150)) (kd:=c.N[i].x) (va:=c.N[i].a) (vb:=c.N[i].b) (vc:=c.N[i].c) (lv:=.slice la c.N[i].M.length lc) (tx:=⟨c.N[i].text.toArray⟩) (vn:=c.N[i].n) (vt:=c.N[i].ty) (vp:=c.N[i].at') (B.y (I.alloc _ _ _)) hf;have ar:=O (hV.at (B.y ca) (by omega) am (J3 bo) (K8 (by rw[<-hR];omega)));have bd:Hid (∀b8 s1 g1,Rm b b8 a pb gq G c.N s1 g1 z->hY s1.c F->rn c.N (aP c) G k (.vs c.N[i].M) F s1≠.stk->_):=λb8 s1 g1 (h1:Rm b b8 a pb gq G c.N s1 g1 z) cf c9=>UF bg h1 (by omega) cf ho (λci hx=>J3 (bp ci hx)) (by omega) c9;have ag:=O (λ(d:Gh) (hp:g.sb<+:d.sb)=>J6 hp (o:=F) λb6 o=>by rw[B.sl];exact am b6 o);have H:=O bi;have HR:=O hR;have a5:=O bn;have ah:=O am;have af:=O bf;have HD:=O sM;have bv:=O (uI 5 (i:Int));have cp:(i:Int)<(c.N.length:Int):=by omega
 rw[az]at ar a6 H a4;generalize pad g.sb F=ps at*;generalize c.N[i]=nd at*;obtain⟨kd,va,vb,vc,ls,tx,vn,vt,vp⟩:=nd;simp only at*;subst az;clear hS hV bg bf B hR bn bo bp bj ca ho bh c8 bi am b5;go_in;go_wp2_with fail;refine ar.u.mono ?_;rintro o v P;obtain⟨S,rfl,N⟩|⟨bx,s2,l,bq,rfl,L,-,au,r2,ax,u,rfl,hu,rfl⟩:=RP.cut (K':=Kv) (λa8=>(rn c.N (aP c) G k (.vs ls) F).bd λhs=>(dX (i:Int) (r1 a8) 64).bd λ_=>(sA (i:Int)).bd λ_=>(eW (r1 a8)).bd λae=>((jC c G k ae hs).cat).bd λr=>sB.bd λ_=>aE r) P
 .exact⟨rfl,by rw[HR.u];exact(N.pre H.u (Gr.refl _)).more (by omega)⟩
 have hM:r1 [u]=u:=rfl;have aj:=HR.u;rw[L,hM]at aj;have cb:=I.alloc No v (.cells #[U u.g,.int .i32 u.n,.string ⟨u.t.toArray⟩,.pointer (pad l.tb u.h)] 150);have fb:=au.trans (aH.y (wB:=b) (mb:=a) (g:=l) cb);have bm:l.ow v.heap.size=none/\a<v.heap.size:=⟨r2.new (vQ _),r2.mc.2.1⟩;obtain⟨x0,x1,x2,x3,x4,x5,x6,x7,x8,xl⟩:=a4.u _ l fb;simp only[World.size_alloc]at x0 x1 x2 x3 x4 x5 x6 x7 x8 xl;have a7:=O (bd.u _ s2 l (r2.y cb) (ah.u.gr ax) (K8 (by rw[<-aj];exact a5.u)));rw[ag.u l au.sb]at a7;have Z:Hid (∀x A,aH b a _ l x A->_):=λx A (hf:aH b a (v.alloc (.cells #[U u.g,.int .i32 u.n,.string ⟨u.t.toArray⟩,.pointer (pad l.tb u.h)] 150)) l x A)=>dU (hf.et (yY v _) bm.1 (by omega) (by decide) (by decide)).1 (I.refl No _);have F2:=O fb;have G2:=O ax;have bc:=O aj;have HU:=O hu;have bw:=O r2.tl;clear P L au r2 ax hu aj ar fb cb bm hM bd;unfold bN;go_wp2_with fail;refine a7.u.mono ?_;rintro o x P;obtain⟨S,rfl,N⟩|⟨av,m,A,bq,rfl,L,-,M,T,a9,ak,ab⟩:=RP.cut (K':=Kv) (λhs=>(dX (i:Int) u 64).bd λ_=>(sA (i:Int)).bd λ_=>(eW u).bd λae=>((jC c G k ae hs).cat).bd λr=>sB.bd λ_=>aE r) P
 .exact⟨rfl,by rw[bc.u];exact((N.pre F2.u G2.u).pre H.u (Gr.refl _)).more (by omega)⟩
 have p:=bc.u;rw[L]at p;obtain⟨ad,ac,rfl⟩:=B8 ab.1;obtain⟨t0,t1,t2,t3,tz,tl⟩:=Z.u x A M;have an:=HU.u.gr a9;have ao:=(J6 M.tb (λb6 o=>by rw[bw.u];exact HU.u.lt b6 o)).symm;have F3:=O (F2.u.trans M);have br:=O M;have G3:=O (G2.u.trans a9);have V:=O T;have b9:=O ak;have bu:=O ab;have ap:Hid (∀j,I No x j->_):=λj (D:I No x j)=>(T.y D).mc;have aq:=O (λe (D:I No x e)=>Z.u e A (br.u.trans (aH.y D)));by_cases W:u.g=64
 .obtain⟨jt,th,bt,ct,z1,z2,z3,z4,z5,-,-⟩:=T.jy an (by omega);rw[I5 (W6 W)]at p;rw[ao,z5]at t3 aq;have c7:=T.ok.ca;by_cases ai:m.c.ca=40
  .have aa:sA (i:Int) m=.over 5 (i:Int) m:=by simp[sA,bU,ai]
   rw[I1 aa]at p;have HP:Hid (∀j,I No x j->RP b a pb gq G c.N (z+2400) w g s Kv R (ov 5 (i:Int) []) j):=λj D=>by
    rw[p];exact⟨A,[],rfl,H.u.trans (F3.u.trans (aH.y D)),(V.u.y D).more (by omega)⟩
   clear P L M T a9 ak ab an ao p aa z1 z2 z3 z4 z5 a7 Z a6 a4 af a5 ah ag HU;generalize u.g=ug at*;subst W;go_wp2_with fail;refine(HD.u _ _ _ _ _ _ _).mono ?_;rintro o j ⟨q,rfl⟩;simp only[if_true];obtain⟨c5,cg,-,-,-,c3,-⟩:=ap.u j q;rw[ai]at c3;have K4:=O q;clear q;go_wp2_with fail;refine(bv.u _).mono ?_;rintro o n ⟨rfl,rfl⟩;exact⟨rfl,HP.u _ K4.u⟩
  .obtain⟨t,ay⟩:∃ch,ch=m.c.ca:=⟨_,rfl⟩;have aa:sA (i:Int) m=.ok () (cS m (t+1) m.c.th):=by simp[sA,bU,ai,cS,ay]
   rw[I5 aa,I5 (uB (s:=cS m (t+1) m.c.th) z1 z2)]at p;have bb:Hid (∀j,I No x j->Calls prog 217 #[pV a,pV bt,.slice ad av.length ac] (j.setCell (J a 3) (U ((t:Int)+1))) λo n=>(∃S,o=.panicked S/\RP b a pb gq G c.N (z+2400) w g s Kv R (.panicked S) n)\/∃yg yn yt yp,o=.returned (.agg #[U yg,.int .i32 yn,.string yt,.pointer yp])/\(n.cell? (J w.heap.size 0)=some (U 0)/\n.cell? (J w.heap.size 1)=some (.int .i32 0)/\n.cell? (J w.heap.size 2)=some (.string ⟨#[]⟩)/\n.cell? (J w.heap.size 3)=some (.pointer none)/\(∀b7,n.frozen? (J w.heap.size b7)=false)/\w.heap.size<n.heap.size)/\((∀b7,n.frozen? (J a b7)=false)/\a<n.heap.size/\n.cell? (J a 3)=some (U ((t:Int)+1)))/\
    Hid (RP b a pb gq G c.N (z+2400) w g s Kv R (.returned (.agg #[U yg,.int .i32 yn,.string yt,.pointer yp])) ((((((n.setCell (J a 3) (U (t:Int))).setCell (J w.heap.size 0) (U yg)).setCell (J w.heap.size 1) (.int .i32 yn)).setCell (J w.heap.size 2) (.string yt)).setCell (J w.heap.size 3) (.pointer yp)).alloc (.cells #[U yg,.int .i32 yn,.string yt,.pointer yp] 150)))):=λj q=>by
    obtain⟨r4,f4⟩:=(V.u.y q).mh (s':=cS m (t+1) m.c.th) (z':=z) 3 (U ((t:Int)+1)) rfl rfl rfl rfl (FE V.u.ok (by omega) ⟨vQ _,V.u.ok.th⟩) (λcs ev=>by rfl) (by grind[cS]);have aw:=(aH.y (wB:=b) (mb:=a) (g:=A) q).trans f4;have cd:=K8 (by rw[<-p];exact a5.u);refine(af.u _ (cS m (t+1) m.c.th) A z jt th bt av _ ad ac r4 hz z2 (z3.trans W) z4 (λy hy=>(b9.u y hy).gr (wH _ _ _)) (bu.u.et V.u aw b9.u) cd).mono ?_;rintro o n ce;obtain⟨S,rfl,N⟩|⟨bx,s5,g5,bq,rfl,e5,bz,c4,r5,c6,y,rfl,hy,rfl⟩:=RP.cut (K':=Kv) (λr=>sB.bd λ_=>aE r) ce
    .refine .inl ⟨S,rfl,?_⟩;rw[p];exact N.pre (H.u.trans (F3.u.trans aw)) (G3.u.trans (wH _ _ _))
    .have al:=ij (c:=c) (G:=G) k th av (cS m (t+1) m.c.th);rw[bz]at al;have al:s5.c.ca=t+1:=al;have be:=F3.u.trans (aw.trans c4);obtain⟨a2,a3⟩:=a6.u n g5 be;obtain⟨n1,n2,n3⟩:=bs.u;obtain⟨cj,zl,-,-,-,zc,-⟩:=r5.mc;refine .inr ⟨y.g,y.n,⟨y.t.toArray⟩,pad g5.tb y.h,rfl,dU a2 (I.refl No _),⟨cj,zl,by grind⟩,?_⟩;exact Zz (vQ _) a2 a3 (by omega) n3 (H.u.trans be) r5 (G3.u.trans ((wH _ _ _).trans c6)) hy al (p.trans e5) _
   clear P L M T a9 ak ab an ao p aa z1 z2 z3 z4 z5 a7 Z a6 a4 af a5 ah ag HU;have ck:(t:Int)<40:=by omega
   have cm:((t:Int)==40)=false:=by simp;omega
   generalize u.g=ug at*;subst W;go_wp2_with fail;refine(HD.u _ _ _ _ _ _ _).mono ?_;rintro o j ⟨q,rfl⟩;simp only[if_true];obtain⟨c5,cg,-,-,-,c3,-⟩:=ap.u j q;rw[<-ay]at c3;obtain⟨b0,b1,b2,b3,-,bl⟩:=aq.u j q;have ba:=O (bb.u j q);clear q bb ap aq ay ai c7;go_wp2_with fail;refine ba.u.mono ?_;rintro o n (⟨S,rfl,N⟩|⟨yg,yn,yt,yp,rfl,⟨y0,y1,y2,y3,yz,yl⟩,⟨cz,cl,cc⟩,E4⟩)
   .exact⟨rfl,N⟩
   clear ba;go_wp2;refine bodyPost_ret (by simp[results,results179,go_sem,y0,y1,y2,y3,yl];rfl) rfl ?_;exact E4.u
 .rw[I1 (oF W)]at p;have HP:Hid (∀j,I No x j->RP b a pb gq G c.N (z+2400) w g s Kv R (ov 3 (i:Int) []) j):=λj D=>by
   rw[p];exact⟨A,[],rfl,H.u.trans (F3.u.trans (aH.y D)),(V.u.y D).more (by omega)⟩
  clear P L M T a9 ak ab an ao p a7 Z a6 a4 af a5 ah ag HU;go_wp2_with fail;refine(HD.u _ _ _ _ _ _ _).mono ?_;rintro o j ⟨q,rfl⟩;rw[zY W];exact⟨rfl,HP.u _ q⟩
theorem Rv.of{m A}{q}{R}{r}(F:m.heap[q]?=some (.cells #[U 0,.int .i32 0,.string ⟨#[]⟩,.pointer none] 150 (0,0)))(H:g.ow q=none)(L:w.heap.size<=q)(t:q≠a)(D:b.heap.size<=q)(hF:aH b a w g m g)(l:RP b a pb gq G c.N z m g s Kv R r A):Dn (RP b a pb gq G c.N z w g s Kv R) q r A:=by
 cases R with
 |stk=>exact l.elim
 |over a4 i x=>
  obtain⟨d,o,rfl,j,k⟩:=l;exact .inl ⟨_,rfl,d,o,rfl,hF.trans j,k⟩
 |back u x=>
  obtain⟨d,o,rfl,j,k,n⟩:=l;exact .inl ⟨_,rfl,d,o,rfl,hF.trans j,k,n⟩
 |ok Z x=>
  obtain⟨d,v,rfl,j,k,n,y,rfl,M,rfl⟩:=l;obtain⟨p,B⟩:=j.et F H t (by decide) (by decide);obtain⟨N,P,S,T,W,V⟩:=dU p (I.refl No _);exact .inr ⟨_,_,_,_,rfl,N,P,S,T,W,V,d,_,rfl,(hF.trans j).gm L _ _ _ _,k.gm p B D t _ _ _ _,n,y,rfl,M,rfl⟩
def uk{k}(o:eN b c pb h f)(F:fD b a pb gq G c k)(H:∀N,N<k->fD b a pb gq G c N)(D:LI b a pb gq G c k):CE b a pb gq G c (gC c 7) λi r=>rn c.N (aP c) G (k+1) (.e i) r:=by
 intro w s g z r i j a7 M hi y;have hz:z<=1000000000:=by omega
 obtain⟨a6,a9,m⟩:=hi;obtain⟨i,rfl⟩:=Int.eq_ofNat_of_zero_le a6;have n:i<c.N.length:=by omega
 rw[B9 n]at m;have a5:=o.ok.ep i n;obtain⟨R,l⟩:∃R,R=rn c.N (aP c) G (k+1) (.e (i:Int)) r s:=⟨_,rfl⟩;simp only[<-l]at y⊢;rw[kU]at l;simp only[B9 n,m]at l;simp only[Int.reduceEq,if_false,if_true]at l;obtain⟨fz,lt,m0,m1,m2,m3,m4⟩:=j.mc;obtain⟨gn,nc,P,S,q0,q1,q2,q3,q4,q5,⟨x0,x1,x2,x3,x4,x5,x6,x7,x8⟩,ho⟩:=o.node j n;obtain⟨v,a4,t⟩:=gV w (.cells #[U 0,.int .i32 0,.string ⟨#[]⟩,.pointer none] 150) (.cells #[U c.N[i].x,U c.N[i].a,U c.N[i].b,U c.N[i].c,.slice P c.N[i].M.length S,.string ⟨c.N[i].text.toArray⟩,U c.N[i].n,U c.N[i].ty,U c.N[i].at'] 85);have x:=aH.y (wB:=b) (mb:=a) (g:=g) t;have A:=j.y t;have p:g.ow w.heap.size=none/\a<w.heap.size/\b.heap.size<=w.heap.size:=⟨j.new (vQ _),j.mc.2.1,j.P.size⟩;have W:=O p;have a2:Hid (∀q u,aH b a _ g q u->_):=λq u (hf:aH b a ((w.alloc (.cells #[U 0,.int .i32 0,.string ⟨#[]⟩,.pointer none] 150)).alloc (.cells #[U c.N[i].x,U c.N[i].a,U c.N[i].b,U c.N[i].c,.slice P c.N[i].M.length S,.string ⟨c.N[i].text.toArray⟩,U c.N[i].n,U c.N[i].ty,U c.N[i].at'] 85)) g q u)=>hf.et v p.1 (by omega) (by decide) (by decide);have aa:=o.ok.tx c.N[i] (mQ n);have L:=(Hk o F H D A a7 M n m l y).mono λa3 q hq=>Rv.of v p.1 (vQ _) (by omega) p.2.2 x (hq.more (show z+2400<=z+3000 by omega));have B:=O L;have V:=O x;have R0:=O A;have Z:=O l;have a8:(i:Int)<(c.N.length:Int):=by omega
 rw[m]at x0;rw[m]at B;generalize pad g.sb r=ps at*;generalize c.N[i]=nd at*;obtain⟨kd,va,vb,vc,ls,tx,vn,vt,vp⟩:=nd;simp only at*;subst m;clear o j l y a5 t ho v a4 x A M p F H D L Z a2 W R0 V;go_in;go_wp2_with fail;refine B.u.mono ?_;rintro a3 q (⟨ab,rfl,hh⟩|⟨vg,ac,ae,ad,rfl,y0,y1,y2,y3,yz,yl,T⟩)
 .exact⟨rfl,hh⟩
 go_wp2;refine bodyPost_ret (by simp[results,results133,go_sem,y0,y1,y2,y3];rfl) rfl ?_;exact T.u
end
