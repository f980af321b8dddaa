/-
  A part of the proof.
-/
import Derived.Test.YteocidgdmjaffaaGreatDoorFitA
import Derived.Deep.DeepCutAuto
set_option maxHeartbeats 0
set_option linter.all false
set_option maxRecDepth 100000
namespace Go.Proofs.YteocidgdmjaffaaGreatDoor
open Go.Proofs.Tryz
open Go.RowKit Go.Maps
section
variable{b a N:Nat}{T:List Ty}
theorem bR.trans{w g i}{D c}{m}(h:bR w a N T D m g)(o:∀p q,p<N->q<N->m<=p+q->fX c p q=fX D p q)(k:bR g a N T c m i):bR w a N T D m i:=by
 obtain⟨j,l,n⟩:=k.gy;exact⟨h.P.trans k.P (λ_ _ x=>x),j,l,λp q d f e=>(n p q d f e).trans (o p q d f e)⟩
def bR.box{w c}{D}{m q}{v}{e}{d}(h:bR w a N T D m c)(g:fS w a N T d)(f:eU w q v e):eU c q v e:=f.gy g h.P
def Bf(m)(IH:kD b a N T m)(w)(D)(a5:dH w b a N T D)(o)(s)(d)(ho:w.ownsRow 0 137 2 (.slice o d.length s) d.length (G0 d))
 (L) (M) (c) (hw:w.ownsRow 0 137 2 (.slice L c.length M) c.length (G0 c)) (B F)
 (a7:∀p∈d,0<=p.2/\p.2<T.length/\∀q∈c,p.2+q.2+1<=m) (a8:∀q∈c,0<=q.2/\q.2<T.length) (hl:eU w F (pV b) 53) (hq:eU w B (.slice o d.length s) 79):
 Calls prog 80 #[.slice L c.length M,.func (.func 202) #[] #[pV B,pV F]] w λe w'=>
  (∃r,e=.returned (.int .i64 r)/\decide (0<=r)=c.any λp=>!N9 T d p)/\bR w a N T D m w':=by
 have g:=O a5;have Z:=O ho;have HW:=O hw;have a2:=O hl;have a3:=O hq;have l:=O a7;have V:=O a8;go_in;go_wp2;go_loopw [8] (λv wr=>∃j:Nat,j<=c.length/\v=.int .i64 j/\Hid ((c.take j).any (λp=>!N9 T d p)=false)/\Hid (bR w a N T D m wr)) (λv _=>c.length-(intOf v).toNat);case atStart=>exact⟨0,wQ _,rfl,by rfl,bR.refl g.u m⟩
 case round=>
  obtain⟨j,hj,rfl,G,f⟩:=hrel;by_cases u:j<c.length
  .obtain⟨ae,rfl,hg,af,aa,y0,y1⟩:=U8 (U5 HW.u g.u.fy f.u.P) u;have y:=mQ u;have P:=V.u _ y;have ac:=λp h=>(l.u p h).2.2 _ y;have HT:=O (LD (p:=λp=>!N9 T d p) u);have W:=O y;generalize c[j]=e0 at*;obtain⟨i,R⟩:=e0;simp only at y0 y1 P ac;obtain⟨z,rfl⟩:∃z:Nat,R=z:=⟨R.toNat,by omega⟩;obtain⟨S,ab,a6⟩:=f.u.kt g.u;have k:=Gi m IH wr S ab o s d (U5 Z.u g.u.fy f.u.P) i z B F (by omega) (λp h=>⟨(l.u p h).1,(l.u p h).2.1,by grind⟩) (f.u.box g.u.fy a2.u) (f.u.box g.u.fy a3.u);have H:=O a6;unfold maxLen at aa;have HR:Hid (∀r,r=(!N9 T d (i,z))->(∃x∈c,(!N9 T d x)=true)\/r=false):=by
    intro r A;cases r
    .simp
    .exact .inl ⟨_,W.u,A.symm⟩
   generalize A:(!N9 T d (i,z))=r at HT k;have a4:=O (HR.u r A.symm);generalize P:(⟨i.toArray⟩:ByteArray)=bx at*;cases r
   .go_wp2_with fail;refine k.mono ?_;rintro e ad ⟨rfl,t⟩;have n:=O (f.u.trans H.u t);go_wp2;go_roundw;case rel=>exact⟨j+1,by omega,by go_num,by grind,n.u⟩
    grind[intOf]
   .go_wp2_with fail;refine k.mono ?_;rintro e ad ⟨rfl,t⟩;have n:=O (f.u.trans H.u t);go_wp2;go_ret;refine⟨⟨_,rfl,?_⟩,n.u⟩;obtain⟨x,ag,ah⟩|h0:=a4.u<;>grind
  .have a9:j=c.length:=by omega
   subst a9;rw[jZ]at G;go_wp2;go_ret;exact⟨⟨_,rfl,by rw[G.u];simp⟩,f.u⟩
def wo(m)(o:kD b a N T m)(w)(D)(h:dH w b a N T D)(f)(g)(d)(x:w.ownsRow 0 137 2 (.slice f d.length g) d.length (G0 d))
 (i) (j) (c) (z:w.ownsRow 0 137 2 (.slice i c.length j) c.length (G0 c)) (l n)
 (s:∀p∈d,0<=p.2/\p.2<T.length/\∀q∈c,p.2+q.2+1<=m) (t:∀q∈c,0<=q.2/\q.2<T.length) (u:eU w n (pV b) 53) (y:eU w l (.slice f d.length g) 79):
 Calls prog 201 #[.slice i c.length j,.func (.func 202) #[] #[pV l,pV n]] w λe A=>
  e=.returned (.bool (c.any λp=>!N9 T d p))/\bR w a N T D m A:=by
 have H:=Bf m o w D h f g d x i j c z l n s t u y;generalize (c.any λp=>!N9 T d p)=r at*;go_in;go_wp2_with fail;refine H.mono ?_;rintro e F ⟨⟨k,rfl,B⟩,v⟩;go_wp2;all_goals go_ret
 all_goals exact⟨E7 (by rfl),v⟩
theorem QN{c:Type}(p):∀l:List c,(!l.any λx=>!p x)=l.all p
 |[]=>rfl
 |d::l=>by
  grind
def Dw(m)(o:kD b a N T m)(w)(D)(h:dH w b a N T D)(f)(g)(c)(y:w.ownsRow 0 137 2 (.slice f c.length g) c.length (G0 c))
 (i) (j) (d) (z:w.ownsRow 0 137 2 (.slice i d.length j) d.length (G0 d))
 (u:∀p∈c,0<=p.2/\p.2<T.length/\∀q∈d,p.2+q.2+1<=m) (v:∀q∈d,0<=q.2/\q.2<T.length):
 Calls prog 169 #[pV b,.slice f c.length g,.slice i d.length j] w λe A=>
  e=.returned (.bool (d.all λp=>N9 T c p))/\bR w a N T D m A:=by
 have t:=VC w (pV b) 53;have k:=VC (w.alloc (.cells #[pV b] 53)) (.slice f c.length g) 79;simp at k;have H:=wo m o _ D ((h.alloc (.cells #[pV b] 53)).alloc (.cells #[.slice f c.length g] 79)) f g c ((y.alloc _).alloc _) i j d ((z.alloc _).alloc _) (w.heap.size+1) w.heap.size u v (t.alloc _) k;have l:=O (((bR.refl h m).alloc (.cells #[pV b] 53)).alloc (.cells #[.slice f c.length g] 79));have n:=O (QN (λp=>N9 T c p) d);generalize (d.all λp=>N9 T c p)=r at*;generalize (d.any λp=>!N9 T c p)=B at*;go_in;go_wp2_with fail;refine H.mono ?_;rintro e F ⟨rfl,x⟩;have s:=O (l.u.trans (λ_ _ _ _ _=>rfl) x);go_wp2;go_ret;exact⟨E7 n.u,s.u⟩
end
set_option linter.unusedSimpArgs false
section
variable{b a N:Nat}{T:List Ty}
def oC(T:List Ty)(p:Int×Int):Bool:=D8 (tr T p.1.toNat) (tr T p.2.toNat)||D8 (tr T p.2.toNat) (tr T p.1.toNat)
def vr{c:Type}{p}{l:List c}{j}(d):(l.take (j+1)).all p=((l.take j).all p&&p l[j]):=by
 grind[nQ]
def PK{w d c}{D}{m}{p1 p2:Nat×Nat}{f g}(e:I (λk=>k=a) d c)(i:bR w a N T D m c)(h:d.cell? (J p1.1 p1.2)=some f/\d.cell? (J p2.1 p2.2)=some g/\Hid (bR w a N T D m d)):
 c.cell? (J p1.1 p1.2)=some f/\c.cell? (J p2.1 p2.2)=some g/\Hid (bR w a N T D m c):=
 ⟨I0 h.2.2.u e h.1,I0 h.2.2.u e h.2.1,i⟩
def yk(m)(V:kD b a N T m)(w)(D)(h:dH w b a N T D)(W)(B)(c)(ho:w.ownsRow 0 3 1 (.slice W c.length B) c.length (C7 c))
 (Z) (F) (d) (hp:w.ownsRow 0 3 1 (.slice Z d.length F) d.length (C7 d)) (a2:∀x∈c,0<=x/\x<T.length/\∀y∈d,x+y+1<=m) (a3:∀y∈d,0<=y/\y<T.length):
 Calls prog 204 #[pV b,.slice W c.length B,.slice Z d.length F] w λe f=>
  e=.returned (.bool (decide (c.length<=d.length)&&(c.zip d).all (oC T)))/\bR w a N T D m f:=by
 have i:=O h;have HO:=O ho;have HP:=O hp;have HI:=O a2;have HJ:=O a3;clear h ho hp a2 a3;by_cases ad:c.length<=d.length
 .have o:decide (c.length<=d.length)=true:=by simp[ad]
  have a7:decide (d.length<c.length)=false:=by simp;omega
  have a5:(c.zip d).length=c.length:=by simp;omega
  have HZ:=O a5;rw[o,Bool.true_and];clear o a5;go_in;go_wp2;go_loopw [15] (λv wr=>∃j:Nat,j<=c.length/\v=.int .i64 (j:Int)/\Hid (((c.zip d).take j).all (oC T)=true)/\Hid (bR w a N T D m wr)) (λv _=>c.length-(intOf v).toNat);case atStart=>exact⟨0,wQ _,rfl,by rfl,bR.refl i.u m⟩
  case round=>
   obtain⟨j,hj,rfl,s,g⟩:=hrel;by_cases a4:j<c.length
   .have L:j<d.length:=by omega
    obtain⟨l,rfl,ai,ak,a9,P⟩:=D6 (U5 HO.u i.u.fy g.u.P) a4;obtain⟨n,rfl,aj,al,ab,R⟩:=D6 (U5 HP.u i.u.fy g.u.P) L;have hx:=HI.u c[j] (mQ a4);have hy:=HJ.u d[j] (mQ L);have af:=hx.2.2 d[j] (mQ L);have z:=O (vr (p:=oC T) (l:=c.zip d) (j:=j) (by grind));have HN:Hid (∀r,r=false->r=oC T (c[j],d[j])->(c.zip d).all (oC T)=false):=by
     intro r am an;rw[List.all_eq_false];refine⟨(c[j],d[j]),?_,by grind⟩;have e:(c.zip d)[j]'(by grind)=(c[j],d[j]):=by simp
     rw[<-e];exact mQ _
    rw[List.getElem_zip]at z;generalize c[j]=xi at*;generalize d[j]=yi at*;obtain⟨x,rfl⟩:∃x:Nat,xi=(x:Int):=⟨xi.toNat,by omega⟩;obtain⟨y,rfl⟩:∃y:Nat,yi=(y:Int):=⟨yi.toNat,by omega⟩;have u:Hid (oC T ((x:Int),(y:Int))=(D8 (tr T x) (tr T y)||D8 (tr T y) (tr T x))):=rfl;have S:∀(p q:Nat) (r:Bool),(p=x/\q=y/\r=D8 (tr T x) (tr T y))\/(p=y/\q=x/\r=D8 (tr T y) (tr T x))->∀k,bR w a N T D m k->
     Calls prog 120 #[pV b,.int .i64 (p:Int),.int .i64 (q:Int)] k λe f=>e=.returned (.bool r)/\I (λag=>ag=a) k f/\bR w a N T D m f:=by
     rintro p q r (⟨rfl,rfl,rfl⟩|⟨rfl,rfl,rfl⟩) k ha
     .exact xK V i.u (by omega) (by omega) (by omega) k ha
     .exact xK V i.u (by omega) (by omega) (by omega) k ha
    generalize D8 (tr T x) (tr T y)=ah at*;generalize D8 (tr T y) (tr T x)=r2 at*;generalize oC T ((x:Int),(y:Int))=r3 at*;unfold maxLen at a9 ab;clear hx hy af;cases ah
    .go_wp2_with fail;go_region_held3 (λf=>f.cell? (J l j)=some (.int .i64 (x:Int))/\f.cell? (J n j)=some (.int .i64 (y:Int))/\Hid (bR w a N T D m f))
      (first
       |exact⟨P,R,g.u.drewN 1⟩
       |exact PK (p1:=(l,j)) (p2:=(n,j)) H M ⟨by omega,by omega,by omega⟩
       |(go_split_ands;exact⟨by assumption,by assumption,by assumption⟩))
      (first
       |((go_at_call 120;go_split_ands;refine(S _ _ _ (by first|exact .inl ⟨rfl,rfl,rfl⟩|exact .inr ⟨rfl,rfl,rfl⟩) _ (Hid.u (by omega))).mono ?_;rintro e f ⟨rfl,H,M⟩)));have t:Hid (bR w a N T D m f):=by assumption
     cases r2
     .go_wp2;go_ret;exact⟨E7 (HN.u r3 (by rw[u.u];rfl) rfl).symm,t.u⟩
     .go_wp2;go_roundw;case rel=>exact⟨j+1,by omega,by go_num,by show _=_;rw[z.u,s.u,u.u];rfl,t.u⟩
      grind[intOf]
    .go_wp2_with fail;refine wp_region_held_drew (S:=λf=>f.cell? (J l j)=some (.int .i64 (x:Int))/\f.cell? (J n j)=some (.int .i64 (y:Int))/\Hid (bR w a N T D m f)) (by rfl) ⟨P,R,g.u.drewN 1⟩ (λa6=>?_);refine tA (i:=0) (k:=18) (v:=pV b) rfl ?_;simp only[Act.put,aT,a0,a1];refine tA (i:=1) (k:=19) (v:=.slice (some (J l 0)) c.length B) rfl ?_;simp only[Act.put,aT,a0,a1];refine tA (i:=2) (k:=20) (v:=.int .i64 (j:Int)) rfl ?_;simp only[Act.put,aT,a0,a1];refine tA (i:=3) (k:=21) (v:=.pointer (some (J l j))) rfl ?_;simp only[Act.put,aT,a0,a1];refine tA (i:=4) (k:=22) (v:=.int .i64 (x:Int)) rfl ?_ (hy:=.inl ⟨by rfl,λw G=>by obtain⟨h1,h2,h3⟩:=G;go_simp⟩);simp only[Act.put,aT,a0,a1];refine tA (i:=5) (k:=23) (v:=.slice (some (J n 0)) d.length F) rfl ?_;simp only[Act.put,aT,a0,a1];refine tA (i:=6) (k:=24) (v:=.int .i64 (j:Int)) rfl ?_;simp only[Act.put,aT,a0,a1];refine tA (i:=7) (k:=25) (v:=.pointer (some (J n j))) rfl ?_;simp only[Act.put,aT,a0,a1];refine tA (i:=8) (k:=26) (v:=.int .i64 (y:Int)) rfl ?_ (hy:=.inl ⟨by rfl,λw G=>by obtain⟨h1,h2,h3⟩:=G;go_simp⟩);simp only[Act.put,aT,a0,a1];refine wpAnyH_ready (rs:=[9]) (by kernel_rfl) (by simp) ?_;refine AllReadyH.cons (o:=Oper.mk (some 27) _ _ _ _ _) rfl (λK hK=>?_) AllReadyH.nil;go_simp;refine(S x y true (.inl ⟨rfl,rfl,rfl⟩) _ (g.u.drewN 1)).mono ?_;rintro e f ⟨rfl,H,M⟩;have A:=PK (p1:=(l,j)) (p2:=(n,j)) H M ⟨P,R,g.u.drewN 1⟩;refine hK _ _ A (λ_=>?_);clear hK K a6;refine tA (i:=10) (k:=28) (v:=.bool false) rfl ?_;simp only[Act.put,aT,a0,a1];refine tA (i:=11) (k:=29) (v:=.bool false) rfl ?_;simp only[Act.put,aT,a0,a1];refine tU (i:=12) (k:=30) rfl ?_;simp only[Act.put,aT,a0,a1];refine tU (i:=13) (k:=31) rfl ?_;simp only[Act.put,aT,a0,a1];refine tU (i:=14) (k:=32) rfl ?_;simp only[Act.put,aT,a0,a1];refine tU (i:=15) (k:=33) rfl ?_;simp only[Act.put,aT,a0,a1];refine tU (i:=16) (k:=34) rfl ?_;simp only[Act.put,aT,a0,a1];refine tU (i:=17) (k:=35) rfl ?_;simp only[Act.put,aT,a0,a1];refine tU (i:=18) (k:=36) rfl ?_;simp only[Act.put,aT,a0,a1];refine tU (i:=19) (k:=37) rfl ?_;simp only[Act.put,aT,a0,a1];refine tU (i:=20) (k:=38) rfl ?_;simp only[Act.put,aT,a0,a1];refine tU (i:=21) (k:=39) rfl ?_;simp only[Act.put,aT,a0,a1];refine tU (i:=22) (k:=40) rfl ?_;simp only[Act.put,aT,a0,a1];refine tA (i:=23) (k:=41) (v:=.bool false) rfl ?_;simp only[Act.put,aT,a0,a1];refine wpAnyH_done (by rfl) ?_ _;have t:=A.2.2;clear A;go_wp2;go_roundw;case rel=>exact⟨j+1,by omega,by go_num,by show _=_;rw[z.u,s.u,u.u];rfl,t.u⟩
     grind[intOf]
   .have a8:j=c.length:=by omega
    subst a8;have ae:(c.zip d).take c.length=c.zip d:=List.take_of_length_le (by grind);rw[ae]at s;go_wp2;go_ret;exact⟨E7 s.u.symm,g.u⟩
 .have o:decide (c.length<=d.length)=false:=by simp;omega
  have a7:decide (d.length<c.length)=true:=by simp;omega
  rw[o,Bool.false_and];have HM:=O (bR.refl i.u m);clear o;go_in;go_wp2;all_goals go_ret
  all_goals exact⟨rfl,HM.u⟩
end
def Tryz.kn(w:E):(zeroValue 3).run prog w=.ok (.int .i64 0) w:=by kernel_rfl
section
variable{e d N:Nat}{T:List Ty}
theorem Io{h g:Type}(f)(p:g×g->Bool):∀(l c:List h),((l.map f).zip (c.map f)).all p=(l.zip c).all λx=>p (f x.1,f x.2)
 |[],_=>by simp
 |_::_,[]=>by simp
 |a::l,b::c=>by grind
def zy{a b}(c:aU T)(f)(g:b<T.length)(l:T[a].x=9)(m:T[b].x=9):
 D8 (tr T a) (tr T b)=((decide (T[a].M.length<=T[b].M.length)&&(T[a].M.zip T[b].M).all (oC T))&&D8 (tr T T[a].ew.toNat) (tr T T[b].ew.toNat)):=by
 have j:∀i (k:i<T.length),T[i].x=9->T[i].ej=[]:=by
  intro i k n;obtain h|h|h|h|h:=c i k
  .omega
  .omega
  .omega
  .grind
  .omega
 rw[U0 c f,U0 c g,l,m,j a f l,j b g m];rw[wY (.inr rfl),wY (.inr rfl)];simp;rw[Ov];simp;rw[Io];rfl
def PM{w a b}{D}{m}{p1 p2 p3 p4 p5:Nat×Nat}{f g i j l}(c:I (λk=>k=d) a b)(n:bR w d N T D m b)
 (h:a.cell? (J p1.1 p1.2)=some f/\a.cell? (J p2.1 p2.2)=some g/\a.cell? (J p3.1 p3.2)=some i/\a.cell? (J p4.1 p4.2)=some j/\a.cell? (J p5.1 p5.2)=some l/\Hid (bR w d N T D m a)):
 b.cell? (J p1.1 p1.2)=some f/\b.cell? (J p2.1 p2.2)=some g/\b.cell? (J p3.1 p3.2)=some i/\b.cell? (J p4.1 p4.2)=some j/\b.cell? (J p5.1 p5.2)=some l/\Hid (bR w d N T D m b):=
 ⟨I0 h.2.2.2.2.2.u c h.1,I0 h.2.2.2.2.2.u c h.2.1,I0 h.2.2.2.2.2.u c h.2.2.1,I0 h.2.2.2.2.2.u c h.2.2.2.1,I0 h.2.2.2.2.2.u c h.2.2.2.2.1,n⟩
def look{w}{D}{a b}{c}(g:fS w d N T D)(r:a<T.length)(s:b<T.length)(j:fX D a b=.lit (.int .i64 c))(n):
 (Instr.lookup 106 (.map (some d)) (.agg #[.int .i64 a,.int .i64 b]) false).run prog (w.drewN n)=.ok (.int .i64 c) (w.drewN n):=by
 have p:=g.len;have q:=g.fq;obtain⟨k,l,_⟩:=g.own;have m:(w.drewN n).ownsMap prog 222 (plainElem prog 3) d k D:=l;obtain⟨h,o,i,_⟩:=m.lookup_int zL underlying106 underlying3 (Tryz.kn _) (yN a b (S8 a (by omega)) (S8 b (by omega)));have f:fX D a b=.lit (.int .i64 h):=i;rw[j]at f;simp at f;rw[f];exact o
def Sn{w}{D}{a b}(f:fS w d N T D)(m:a<T.length)(n:b<T.length):∃c,fX D a b=.lit (.int .i64 c):=by
 have j:=f.len;have l:=f.fq;obtain⟨k,i,_⟩:=f.own;obtain⟨g,o,h,_⟩:=i.lookup_int zL underlying106 underlying3 (Tryz.kn _) (yN a b (S8 a (by omega)) (S8 b (by omega)));exact⟨g,h⟩
def tell{w l f}{D}{m a b}(o:I No w l)(j:bR l d N T D m f)(s:a<T.length)(t:b<T.length)(M:fX D a b=.lit (.int .i64 0))(y:m<=a+b)(r)(G:D8 (tr T a) (tr T b)=r):
 ∃g,(Instr.mapUpdate 106 (.map (some d)) (.agg #[.int .i64 a,.int .i64 b]) (.int .i64 (if r then 1 else 2))).run prog f.drew=.ok () g/\jP w d N T D (a+b) r (.returned (.bool r)) g:=by
 obtain⟨h,c,u⟩:=j.gy;have P:=c.len;have i:=c.fq;obtain⟨n,A,z⟩:=c.own;have B:f.drew.ownsMap prog 222 (plainElem prog 3) d n h:=A;have R:=Nat.mul_le_mul i i;have L:(Lit.int .i64 (if r then 1 else 2)).wf=true:=by cases r<;>decide
 obtain⟨g,H,F,v⟩:=B.update zL underlying106 (by grind[maxLen]) (yN a b (S8 a (by omega)) (S8 b (by omega))) (plainElem_int underlying3 L);have Z:fX h a b=.lit (.int .i64 0):=by rw[u a b (by omega) (by omega) y];exact M
 have q:=c.put s t (by grind[ym]) r G z F;refine⟨g,H,rfl,?_,_,q,λp a2 S W V=>?_⟩
 .exact((o.mono λ_ _ x=>x.elim).trans j.P (λ_ _ x=>x)).trans ((I.drewN (λk=>k=d) f 1).trans (I.grown v) (λk _ x=>by grind)) (λ_ _ x=>x)
 grind[GB]
def Kd(m)(IH:kD e d N T m)(w)(D)(h:dH w e d N T D)(a b)(s)(t:b<T.length)(hm:a+b=m)(ka:T[a].x=9)(kb:T[b].x=9):
 Calls prog 170 #[pV e,.int .i64 a,.int .i64 b] w (jP w d N T D (a+b) (D8 (tr T a) (tr T b))):=by
 have hT:=h.ok;have ba:=h.fq;obtain⟨k,S⟩:=Sn h.fy s t;have n:=h.alloc (.cells #[.int .i64 (a:Int),.int .i64 (b:Int)] 222);have HL:=look n.fy s t S;have ae:=h.fy.gy a b k (yQ s h.fy.len) (yQ t h.fy.len) S;have C0:=O (I.alloc No w (.cells #[.int .i64 (a:Int),.int .i64 (b:Int)] 222));obtain⟨ad,c,af,av,al,fz,a9⟩:=h.cell;have j:=O (bR.refl n m);have A:=O n;have HF:=O (zy hT s t ka kb);have HT:=O (λar (r:bR (w.alloc (.cells #[.int .i64 (a:Int),.int .i64 (b:Int)] 222)) d N T D m ar) (hz:k=0) b3 hr=>tell C0.u r s t (hz ▸ S) (by omega) b3 hr);have HD:Hid (fX D a b=.lit (.int .i64 k)):=S;have b6:=O h.fy;clear S n hT;by_cases ai:k=0
 .subst ai;clear ae;have M:=h.ok;obtain⟨g,fa,fc,W,F,rfl,hg,b9,ax,-,-,x2,x3,-,ao⟩:=a9 a s;obtain⟨g',fb,b5,Z,G,ah,-,-,-,-,-,z2,z3,-,ap⟩:=a9 b t;simp only[zQ,Addr.mk.injEq,and_true]at ah;subst ah;have aj:=(M a s).kj;have ak:=(M b t).kj;have az:=(M a s).of (.inr ka);have b0:=(M b t).of (.inr kb);have O1:=O (ao.alloc (.cells #[.int .i64 (a:Int),.int .i64 (b:Int)] 222));have O2:=O (ap.alloc (.cells #[.int .i64 (a:Int),.int .i64 (b:Int)] 222));clear a9 ao ap h M;generalize T[a].M=o at*;generalize T[b].M=p at*;generalize T[a].ew=oi at*;generalize T[b].ew=pi at*;obtain⟨ox,rfl⟩:∃x:Nat,oi=(x:Int):=⟨oi.toNat,by omega⟩;obtain⟨oy,rfl⟩:∃x:Nat,pi=(x:Int):=⟨pi.toNat,by omega⟩;have P:∀{an aq},w.cell? (J g an)=some aq->(w.alloc (.cells #[.int .i64 (a:Int),.int .i64 (b:Int)] 222)).cell? (J g an)=some aq:=λhx=>I4 hg hx;have a0:(w.alloc (.cells #[.int .i64 (a:Int),.int .i64 (b:Int)] 222)).cell? (J e 0)=some (.slice (some (J g 0)) T.length c):=I4 al af;have a1:=P x2;have a2:=P z2;have a3:=P x3;have a4:=P z3;have a5:(w.alloc (.cells #[.int .i64 (a:Int),.int .i64 (b:Int)] 222)).cell? (J e 1)=some (.map (some d)):=I4 al av;have a6:(w.alloc (.cells #[.int .i64 (a:Int),.int .i64 (b:Int)] 222)).cell? (J w.heap.size 0)=some (.int .i64 (a:Int)):=by rw[World.cell?_alloc_new];rfl
  have a7:(w.alloc (.cells #[.int .i64 (a:Int),.int .i64 (b:Int)] 222)).cell? (J w.heap.size 1)=some (.int .i64 (b:Int)):=by rw[World.cell?_alloc_new];rfl
  have A5:=O a5;have A6:=O a6;have A7:=O a7;have PF:∀y,bR (w.alloc (.cells #[.int .i64 (a:Int),.int .i64 (b:Int)] 222)) d N T D m y->Calls prog 204 #[pV e,.slice W o.length F,.slice Z p.length G] y λH f=>
   H=.returned (.bool (decide (o.length<=p.length)&&(o.zip p).all (oC T)))/\I (λk=>k=d) y f/\bR (w.alloc (.cells #[.int .i64 (a:Int),.int .i64 (b:Int)] 222)) d N T D m f:=by
   intro y r;obtain⟨D1,b1,ay⟩:=r.kt A.u;refine(yk m IH y D1 b1 W F o (U5 O1.u A.u.fy r.P) Z G p (U5 O2.u A.u.fy r.P) (λx hx=>⟨(aj x hx).1,by grind,λau hy=>by grind⟩) (λau hy=>⟨(ak au hy).1,by grind⟩)).mono ?_;rintro H ar ⟨he,ag⟩;exact⟨he,ag.P,r.trans ay ag⟩
  have FM:=λy (r:bR (w.alloc (.cells #[.int .i64 (a:Int),.int .i64 (b:Int)] 222)) d N T D m y)=>xK IH A.u (a:=ox) (b:=oy) (by omega) (by omega) (by omega) y r;have ab:=HF.u;simp only[tQ]at ab;generalize (decide (o.length<=p.length)&&(o.zip p).all (oC T))=b4 at*;generalize D8 (tr T ox) (tr T oy)=r2 at*;generalize D8 (tr T a) (tr T b)=a8 at*;have q:=O ab;unfold maxLen at ax;clear ab HF aj ak az b0 x2 x3 z2 z3 P af a5 a6 a7 hm;have b7:(a:Int)<(T.length:Int):=by omega
  have b8:(b:Int)<(T.length:Int):=by omega
  cases b4
  .go_in;go_wp2_with fail;go_quiet (fail);go_wp2_with fail;refine wp_region_held_drew (S:=(λf=>f.cell? (J e 0)=some (.slice (some (J g 0)) T.length c)/\f.cell? (J g (a*4+2))=some (.slice W o.length F)/\f.cell? (J g (b*4+2))=some (.slice Z p.length G)/\f.cell? (J g (a*4+3))=some (.int .i64 (ox:Int))/\f.cell? (J g (b*4+3))=some (.int .i64 (oy:Int))/\Hid (bR (w.alloc (.cells #[.int .i64 (a:Int),.int .i64 (b:Int)] 222)) d N T D m f))) (by rfl) ⟨a0,a1,a2,a3,a4,(j.u.drewN nq).drewN 1⟩ (λaw=>?_);refine wpAnyH_take (i:=0) (oi:=Oper.mk (some 20) _ _ _ _ _) (v:=pV e) rfl (by kernel_rfl) (by kernel_rfl) (by kernel_rfl) (λ_ _ _ h=>h) (Or.inl ⟨by rfl,λw i=>by go_simp⟩) (by omega) ?_;simp only[Act.put,zZ,lZ,iZ];refine wpAnyH_take (i:=1) (oi:=Oper.mk (some 21) _ _ _ _ _) (v:=pV e) rfl (by kernel_rfl) (by kernel_rfl) (by kernel_rfl) (λ_ _ _ h=>h) (Or.inl ⟨by rfl,λw i=>by go_simp⟩) (by omega) ?_;simp only[Act.put,zZ,lZ,iZ];refine wpAnyH_take (i:=2) (oi:=Oper.mk (some 22) _ _ _ _ _) (v:=pV e) rfl (by kernel_rfl) (by kernel_rfl) (by kernel_rfl) (λ_ _ _ h=>h) (Or.inl ⟨by rfl,λw i=>by go_simp⟩) (by omega) ?_;simp only[Act.put,zZ,lZ,iZ];refine wpAnyH_take (i:=3) (oi:=Oper.mk (some 23) _ _ _ _ _) (v:=pV e) rfl (by kernel_rfl) (by kernel_rfl) (by kernel_rfl) (λ_ _ _ h=>h) (Or.inl ⟨by rfl,λw i=>by go_simp⟩) (by omega) ?_;simp only[Act.put,zZ,lZ,iZ];refine wpAnyH_take (i:=4) (oi:=Oper.mk (some 24) _ _ _ _ _) (v:=.slice (some (J g 0)) T.length c) rfl (by kernel_rfl) (by kernel_rfl) (by kernel_rfl) (λ_ _ _ h=>h) (Or.inl ⟨by rfl,λw i=>by obtain⟨n,L,h3,h4,h5,h6⟩:=i;go_simp⟩) (by omega) ?_;simp only[Act.put,zZ,lZ,iZ];refine wpAnyH_take (i:=5) (oi:=Oper.mk (some 25) _ _ _ _ _) (v:=.int .i64 (a:Int)) rfl (by kernel_rfl) (by kernel_rfl) (by kernel_rfl) (λ_ _ _ h=>h) (Or.inl ⟨by rfl,λw i=>by go_simp⟩) (by omega) ?_;simp only[Act.put,zZ,lZ,iZ];refine wpAnyH_take (i:=6) (oi:=Oper.mk (some 26) _ _ _ _ _) (v:=.pointer (some (J g (a*4)))) rfl (by kernel_rfl) (by kernel_rfl) (by kernel_rfl) (λ_ _ _ h=>h) (Or.inl ⟨by rfl,λw i=>by go_simp⟩) (by omega) ?_;simp only[Act.put,zZ,lZ,iZ];refine wpAnyH_take (i:=7) (oi:=Oper.mk (some 27) _ _ _ _ _) (v:=.pointer (some (J g (a*4+2)))) rfl (by kernel_rfl) (by kernel_rfl) (by kernel_rfl) (λ_ _ _ h=>h) (Or.inl ⟨by rfl,λw i=>by go_simp⟩) (by omega) ?_;simp only[Act.put,zZ,lZ,iZ];refine wpAnyH_take (i:=8) (oi:=Oper.mk (some 28) _ _ _ _ _) (v:=.slice W o.length F) rfl (by kernel_rfl) (by kernel_rfl) (by kernel_rfl) (λ_ _ _ h=>h) (Or.inl ⟨by rfl,λw i=>by obtain⟨n,L,h3,h4,h5,h6⟩:=i;go_simp⟩) (by omega) ?_;simp only[Act.put,zZ,lZ,iZ];refine wpAnyH_take (i:=9) (oi:=Oper.mk (some 29) _ _ _ _ _) (v:=pV e) rfl (by kernel_rfl) (by kernel_rfl) (by kernel_rfl) (λ_ _ _ h=>h) (Or.inl ⟨by rfl,λw i=>by go_simp⟩) (by omega) ?_;simp only[Act.put,zZ,lZ,iZ];refine wpAnyH_take (i:=10) (oi:=Oper.mk (some 30) _ _ _ _ _) (v:=pV e) rfl (by kernel_rfl) (by kernel_rfl) (by kernel_rfl) (λ_ _ _ h=>h) (Or.inl ⟨by rfl,λw i=>by go_simp⟩) (by omega) ?_;simp only[Act.put,zZ,lZ,iZ];refine wpAnyH_take (i:=11) (oi:=Oper.mk (some 31) _ _ _ _ _) (v:=pV e) rfl (by kernel_rfl) (by kernel_rfl) (by kernel_rfl) (λ_ _ _ h=>h) (Or.inl ⟨by rfl,λw i=>by go_simp⟩) (by omega) ?_;simp only[Act.put,zZ,lZ,iZ];refine wpAnyH_take (i:=12) (oi:=Oper.mk (some 32) _ _ _ _ _) (v:=.slice (some (J g 0)) T.length c) rfl (by kernel_rfl) (by kernel_rfl) (by kernel_rfl) (λ_ _ _ h=>h) (Or.inl ⟨by rfl,λw i=>by obtain⟨n,L,h3,h4,h5,h6⟩:=i;go_simp⟩) (by omega) ?_;simp only[Act.put,zZ,lZ,iZ];refine wpAnyH_take (i:=13) (oi:=Oper.mk (some 33) _ _ _ _ _) (v:=.int .i64 (b:Int)) rfl (by kernel_rfl) (by kernel_rfl) (by kernel_rfl) (λ_ _ _ h=>h) (Or.inl ⟨by rfl,λw i=>by go_simp⟩) (by omega) ?_;simp only[Act.put,zZ,lZ,iZ];refine wpAnyH_take (i:=14) (oi:=Oper.mk (some 34) _ _ _ _ _) (v:=.pointer (some (J g (b*4)))) rfl (by kernel_rfl) (by kernel_rfl) (by kernel_rfl) (λ_ _ _ h=>h) (Or.inl ⟨by rfl,λw i=>by go_simp⟩) (by omega) ?_;simp only[Act.put,zZ,lZ,iZ];refine wpAnyH_take (i:=15) (oi:=Oper.mk (some 35) _ _ _ _ _) (v:=.pointer (some (J g (b*4+2)))) rfl (by kernel_rfl) (by kernel_rfl) (by kernel_rfl) (λ_ _ _ h=>h) (Or.inl ⟨by rfl,λw i=>by go_simp⟩) (by omega) ?_;simp only[Act.put,zZ,lZ,iZ];refine wpAnyH_take (i:=16) (oi:=Oper.mk (some 36) _ _ _ _ _) (v:=.slice Z p.length G) rfl (by kernel_rfl) (by kernel_rfl) (by kernel_rfl) (λ_ _ _ h=>h) (Or.inl ⟨by rfl,λw i=>by obtain⟨n,L,h3,h4,h5,h6⟩:=i;go_simp⟩) (by omega) ?_;simp only[Act.put,zZ,lZ,iZ];refine wpAnyH_ready (rs:=[17]) (by kernel_rfl) (by simp) ?_;refine AllReadyH.cons (o:=Oper.mk (some 37) _ _ _ _ _) rfl (λK hK=>?_) AllReadyH.nil;go_simp;refine(PF _ ((j.u.drewN nq).drewN 1)).mono ?_;rintro H f ⟨rfl,R,V⟩;have S2:=PM (p1:=(e,0)) (p2:=(g,a*4+2)) (p3:=(g,b*4+2)) (p4:=(g,a*4+3)) (p5:=(g,b*4+3)) R V ⟨a0,a1,a2,a3,a4,(j.u.drewN nq).drewN 1⟩;refine hK _ _ S2 (λ_=>?_);clear hK K aw;refine wpAnyH_take (i:=18) (oi:=Oper.mk (some 38) _ _ _ _ _) (v:=.bool false) rfl (by kernel_rfl) (by kernel_rfl) (by kernel_rfl) (λ_ _ _ h=>h) (Or.inl ⟨by rfl,λw i=>by go_simp⟩) (by omega) ?_;simp only[Act.put,zZ,lZ,iZ];refine wpAnyH_take (i:=19) (oi:=Oper.mk (some 39) _ _ _ _ _) (v:=undef) rfl (by kernel_rfl) (by kernel_rfl) (by kernel_rfl) (λ_ _ _ h=>h) (Or.inr ⟨by rfl,rfl⟩) (by omega) ?_;simp only[Act.put,zZ,lZ,iZ];refine wpAnyH_take (i:=20) (oi:=Oper.mk (some 40) _ _ _ _ _) (v:=undef) rfl (by kernel_rfl) (by kernel_rfl) (by kernel_rfl) (λ_ _ _ h=>h) (Or.inr ⟨by rfl,rfl⟩) (by omega) ?_;simp only[Act.put,zZ,lZ,iZ];refine wpAnyH_take (i:=21) (oi:=Oper.mk (some 41) _ _ _ _ _) (v:=undef) rfl (by kernel_rfl) (by kernel_rfl) (by kernel_rfl) (λ_ _ _ h=>h) (Or.inr ⟨by rfl,rfl⟩) (by omega) ?_;simp only[Act.put,zZ,lZ,iZ];refine wpAnyH_take (i:=22) (oi:=Oper.mk (some 42) _ _ _ _ _) (v:=undef) rfl (by kernel_rfl) (by kernel_rfl) (by kernel_rfl) (λ_ _ _ h=>h) (Or.inr ⟨by rfl,rfl⟩) (by omega) ?_;simp only[Act.put,zZ,lZ,iZ];refine wpAnyH_take (i:=23) (oi:=Oper.mk (some 43) _ _ _ _ _) (v:=undef) rfl (by kernel_rfl) (by kernel_rfl) (by kernel_rfl) (λ_ _ _ h=>h) (Or.inr ⟨by rfl,rfl⟩) (by omega) ?_;simp only[Act.put,zZ,lZ,iZ];refine wpAnyH_take (i:=24) (oi:=Oper.mk (some 44) _ _ _ _ _) (v:=undef) rfl (by kernel_rfl) (by kernel_rfl) (by kernel_rfl) (λ_ _ _ h=>h) (Or.inr ⟨by rfl,rfl⟩) (by omega) ?_;simp only[Act.put,zZ,lZ,iZ];refine wpAnyH_take (i:=25) (oi:=Oper.mk (some 45) _ _ _ _ _) (v:=undef) rfl (by kernel_rfl) (by kernel_rfl) (by kernel_rfl) (λ_ _ _ h=>h) (Or.inr ⟨by rfl,rfl⟩) (by omega) ?_;simp only[Act.put,zZ,lZ,iZ];refine wpAnyH_take (i:=26) (oi:=Oper.mk (some 46) _ _ _ _ _) (v:=undef) rfl (by kernel_rfl) (by kernel_rfl) (by kernel_rfl) (λ_ _ _ h=>h) (Or.inr ⟨by rfl,rfl⟩) (by omega) ?_;simp only[Act.put,zZ,lZ,iZ];refine wpAnyH_take (i:=27) (oi:=Oper.mk (some 47) _ _ _ _ _) (v:=undef) rfl (by kernel_rfl) (by kernel_rfl) (by kernel_rfl) (λ_ _ _ h=>h) (Or.inr ⟨by rfl,rfl⟩) (by omega) ?_;simp only[Act.put,zZ,lZ,iZ];refine wpAnyH_take (i:=28) (oi:=Oper.mk (some 48) _ _ _ _ _) (v:=undef) rfl (by kernel_rfl) (by kernel_rfl) (by kernel_rfl) (λ_ _ _ h=>h) (Or.inr ⟨by rfl,rfl⟩) (by omega) ?_;simp only[Act.put,zZ,lZ,iZ];refine wpAnyH_take (i:=29) (oi:=Oper.mk (some 49) _ _ _ _ _) (v:=undef) rfl (by kernel_rfl) (by kernel_rfl) (by kernel_rfl) (λ_ _ _ h=>h) (Or.inr ⟨by rfl,rfl⟩) (by omega) ?_;simp only[Act.put,zZ,lZ,iZ];refine wpAnyH_take (i:=30) (oi:=Oper.mk (some 50) _ _ _ _ _) (v:=undef) rfl (by kernel_rfl) (by kernel_rfl) (by kernel_rfl) (λ_ _ _ h=>h) (Or.inr ⟨by rfl,rfl⟩) (by omega) ?_;simp only[Act.put,zZ,lZ,iZ];refine wpAnyH_take (i:=31) (oi:=Oper.mk (some 51) _ _ _ _ _) (v:=undef) rfl (by kernel_rfl) (by kernel_rfl) (by kernel_rfl) (λ_ _ _ h=>h) (Or.inr ⟨by rfl,rfl⟩) (by omega) ?_;simp only[Act.put,zZ,lZ,iZ];refine wpAnyH_take (i:=32) (oi:=Oper.mk (some 52) _ _ _ _ _) (v:=undef) rfl (by kernel_rfl) (by kernel_rfl) (by kernel_rfl) (λ_ _ _ h=>h) (Or.inr ⟨by rfl,rfl⟩) (by omega) ?_;simp only[Act.put,zZ,lZ,iZ];refine wpAnyH_take (i:=33) (oi:=Oper.mk (some 53) _ _ _ _ _) (v:=undef) rfl (by kernel_rfl) (by kernel_rfl) (by kernel_rfl) (λ_ _ _ h=>h) (Or.inr ⟨by rfl,rfl⟩) (by omega) ?_;simp only[Act.put,zZ,lZ,iZ];refine wpAnyH_take (i:=34) (oi:=Oper.mk (some 54) _ _ _ _ _) (v:=undef) rfl (by kernel_rfl) (by kernel_rfl) (by kernel_rfl) (λ_ _ _ h=>h) (Or.inr ⟨by rfl,rfl⟩) (by omega) ?_;simp only[Act.put,zZ,lZ,iZ];refine wpAnyH_take (i:=35) (oi:=Oper.mk (some 55) _ _ _ _ _) (v:=undef) rfl (by kernel_rfl) (by kernel_rfl) (by kernel_rfl) (λ_ _ _ h=>h) (Or.inr ⟨by rfl,rfl⟩) (by omega) ?_;simp only[Act.put,zZ,lZ,iZ];refine wpAnyH_take (i:=36) (oi:=Oper.mk (some 56) _ _ _ _ _) (v:=undef) rfl (by kernel_rfl) (by kernel_rfl) (by kernel_rfl) (λ_ _ _ h=>h) (Or.inr ⟨by rfl,rfl⟩) (by omega) ?_;simp only[Act.put,zZ,lZ,iZ];refine wpAnyH_take (i:=37) (oi:=Oper.mk (some 57) _ _ _ _ _) (v:=.bool false) rfl (by kernel_rfl) (by rfl) (by kernel_rfl) (λ_ _ _ h=>h) (Or.inl ⟨by rfl,λw i=>by go_simp⟩) (by omega) ?_;simp only[Act.put,zZ,lZ,iZ];refine wpAnyH_done (by rfl) ?_ _;have l:=S2.2.2.2.2.2;clear S2 R V;have q5:=I0 j.u l.u.P A5.u;have q6:=I0 j.u l.u.P A6.u;have q7:=I0 j.u l.u.P A7.u;have b2:=World.block_lt_of_cell? f _ q6;obtain⟨z,v,u⟩:=HT.u f l.u trivial false (by rw[q.u];rfl);have am:(Instr.mapUpdate 106 (.map (some d)) (.agg #[.int .i64 (a:Int),.int .i64 (b:Int)]) (.int .i64 2)).run prog f.drew=.ok () z:=v;have B:Hid (jP w d N T D (a+b) a8 (.returned (.bool false)) z):=by
    show jP _ _ _ _ _ _ _ _ _;rw[q.u];exact u
   clear v u;go_wp2_with fail;go_region;go_wp2;go_ret;exact B.u
  .go_in;go_wp2_with fail;go_quiet (fail);go_wp2_with fail;go_region_held3 (λf=>f.cell? (J e 0)=some (.slice (some (J g 0)) T.length c)/\f.cell? (J g (a*4+2))=some (.slice W o.length F)/\f.cell? (J g (b*4+2))=some (.slice Z p.length G)/\f.cell? (J g (a*4+3))=some (.int .i64 (ox:Int))/\f.cell? (J g (b*4+3))=some (.int .i64 (oy:Int))/\Hid (bR (w.alloc (.cells #[.int .i64 (a:Int),.int .i64 (b:Int)] 222)) d N T D m f))
    (first
     |exact⟨a0,a1,a2,a3,a4,(j.u.drewN nq).drewN 1⟩
     |exact PM (p1:=(e,0)) (p2:=(g,a*4+2)) (p3:=(g,b*4+2)) (p4:=(g,a*4+3)) (p5:=(g,b*4+3)) R V ⟨by assumption,by assumption,by assumption,by assumption,by assumption,by assumption⟩
     |(go_split_ands;exact⟨by assumption,by assumption,by assumption,by assumption,by assumption,by assumption⟩))
    (first
     |((go_at_call 204;go_split_ands;refine(PF _ (Hid.u (by assumption))).mono ?_;rintro H f ⟨rfl,R,V⟩))
     |((go_at_call 120;go_split_ands;refine(FM _ (Hid.u (by omega))).mono ?_;rintro H f ⟨rfl,R,V⟩)));have l:Hid (bR (w.alloc (.cells #[.int .i64 (a:Int),.int .i64 (b:Int)] 222)) d N T D m f):=by assumption
   have q5:=I0 j.u l.u.P A5.u;have q6:=I0 j.u l.u.P A6.u;have q7:=I0 j.u l.u.P A7.u;have b2:=World.block_lt_of_cell? f _ q6;clear PF FM;cases r2
   .obtain⟨z,v,u⟩:=HT.u f l.u trivial false (by rw[q.u];rfl);have am:(Instr.mapUpdate 106 (.map (some d)) (.agg #[.int .i64 (a:Int),.int .i64 (b:Int)]) (.int .i64 2)).run prog f.drew=.ok () z:=v;have B:Hid (jP w d N T D (a+b) a8 (.returned (.bool false)) z):=by
     show jP _ _ _ _ _ _ _ _ _;rw[q.u];exact u
    clear v u;go_wp2_with fail;go_region;go_wp2;go_ret;exact B.u
   .obtain⟨z,v,u⟩:=HT.u f l.u trivial true (by rw[q.u];rfl);have am:(Instr.mapUpdate 106 (.map (some d)) (.agg #[.int .i64 (a:Int),.int .i64 (b:Int)]) (.int .i64 1)).run prog f.drew=.ok () z:=v;have B:Hid (jP w d N T D (a+b) a8 (.returned (.bool true)) z):=by
     show jP _ _ _ _ _ _ _ _ _;rw[q.u];exact u
    clear v u;go_wp2_with fail;go_region;go_wp2;go_ret;exact B.u
 .have bb:(k==0)=false:=by simp[ai]
  have q:Hid (D8 (tr T a) (tr T b)=(k==1)):=by
   obtain h|⟨_,_,⟨n,L⟩|⟨n,L⟩⟩:=ae
   .omega
   .simp_all
   .simp_all
  have HX:Hid (∀aa,jP w d N T D (a+b) (D8 (tr T a) (tr T b)) (.returned (.bool (k==1))) ((w.alloc (.cells #[.int .i64 (a:Int),.int .i64 (b:Int)] 222)).drewN aa)):=by
   intro aa;rw[q.u];exact⟨rfl,((C0.u.mono λ_ _ x=>x.elim).trans (I.drewN _ _ aa) (λ_ _ x=>x)),D,A.u.fy.P (I.drewN No _ aa) (λx=>x),λ_ _ _ _ _=>rfl⟩
  clear ae h a9 HF HT;generalize D8 (tr T a) (tr T b)=a8 at*;go_in;go_wp2_with fail;go_quiet (fail);go_wp2;go_ret;exact HX.u _
theorem iH{a}(b:aU T)(c):(tr T a).k=T[a].x:=by rw[U0 b c];rfl
theorem GA{a}(b:aU T)(c:a<T.length):(tr T a).ns=T[a].ej.map (·.1):=by rw[U0 b c];rfl
theorem wR{a}(b:aU T)(c:a<T.length)(f:T[a].x≠7):T[a].ej=[]:=by
 obtain h|h|h|h|h:=b a c<;>grind
theorem JI{a}(b:aU T)(c:a<T.length)(f:T[a].x=7\/T[a].x=8):T[a].M=[]:=by
 obtain h|h|h|h|h:=b a c<;>grind
theorem oD{a}(b:aU T)(c):(tr T a).ks=(if T[a].x=8\/T[a].x=9 then [tr T T[a].ew.toNat] else [])++(T[a].ej.map λp=>tr T p.2.toNat)++T[a].M.map λx=>tr T x.toNat:=by rw[U0 b c];rfl
section
variable{a b:Nat}(c:aU T)(f:a<T.length)(g:b<T.length)
include c f g
def Qy(h:T[a].x=5\/T[b].x=5\/T[b].x=6):D8 (tr T a) (tr T b)=true:=by
 simp_all[rJ,iH,wY]
def Ql(h:¬(T[a].x=5\/T[b].x=5\/T[b].x=6))(i:T[a].x=10):D8 (tr T a) (tr T b)=!T[a].M.any λx=>!D8 (tr T x.toNat) (tr T b):=by
 rw[QN (λx:Int=>D8 (tr T x.toNat) (tr T b)),rJ,iH c f,iH c g,zY h,wY i,oD c f,wR c f (by omega),zY (by omega)];grind
def Qr(h:¬(T[a].x=5\/T[b].x=5\/T[b].x=6))(i:T[a].x≠10)(j:T[b].x=10):D8 (tr T a) (tr T b)=T[b].M.any λx=>D8 (tr T a) (tr T x.toNat):=by
 rw[rJ,iH c f,iH c g,zY h,zY i,wY j,oD c g,wR c g (by omega),zY (by omega)];grind
def Qi(h:¬(T[a].x=5\/T[b].x=5\/T[b].x=6))(i:T[a].x≠10)(j:T[b].x≠10)(k:T[a].x≠T[b].x):D8 (tr T a) (tr T b)=false:=by
 simp_all[rJ,iH,zY,wY]
def Qg(i:T[a].x=7)(j:T[b].x=7):D8 (tr T a) (tr T b)=T[b].ej.all λp=>N9 T T[a].ej p:=by
 rw[rJ,iH c f,iH c g,zY (by omega),zY (by omega),zY (by omega),zY (by omega),wY i,oD c g,oD c f,GA c f,GA c g,zY (by omega),zY (by omega),JI c f (.inl i),JI c g (.inl j)];simp;generalize T[b].ej=h;induction h with
 |nil=>rfl
 |cons p h k=>rw[xZ,xZ,List.zip_cons_cons,List.all_cons,List.all_cons,k];rfl
def Qd(h:T[a].x=8)(i:T[b].x=8):D8 (tr T a) (tr T b)=D8 (tr T T[a].ew.toNat) (tr T T[b].ew.toNat):=by
 rw[rJ,iH c f,iH c g,zY (by omega),zY (by omega),zY (by omega),zY (by omega),zY (by omega),wY h,oD c g,oD c f,wY (.inl h),wY (.inl i)];rfl
def A6c(h:¬(T[a].x=5\/T[b].x=5\/T[b].x=6))(i:T[a].x≠10)(j:T[a].x=T[b].x)(k:T[a].x≠7)(l:T[a].x≠8)(m:T[a].x≠9):D8 (tr T a) (tr T b)=true:=by
 simp_all[rJ,iH,zY]
end
def Oo{w wc b}{D}{m n}{R}(h:I No w wc)(a:bR wc d N T D m b)(k:m<=n+1):jP w d N T D n R (.returned (.bool R)) b:=by
 obtain⟨c,f,g⟩:=a.gy;exact⟨rfl,(h.mono λ_ _ x=>x.elim).trans a.P (λ_ _ x=>x),c,f,λp q i j l=>g p q i j (by omega)⟩
def wx(m)(S:kD e d N T m)(w)(D)(a3:dH w e d N T D)(a b)(k:a<T.length)(l:b<T.length)(hm:a+b=m):
 Calls prog 120 #[pV e,U a,U b] w (jP w d N T D (a+b) (D8 (tr T a) (tr T b))):=by
 have j:=a3.ok;obtain⟨ad,av,a5,aw,bi,fz,a9⟩:=a3.cell;obtain⟨g,fa,fc,la,ac,rfl,hg,bf,ax,x0,x1,x2,x3,ak,am⟩:=a9 a k;obtain⟨g',fb,a6,aa,bc,ai,-,-,-,z0,z1,z2,z3,al,an⟩:=a9 b l;simp at ai;subst ai;unfold maxLen at ax;have H0:=O a3;have ap:=O ak;have aq:=O al;have ar:=O am;have au:=O an;have R:=O hm;have r:=O (Qy j k l);have v:=O (Ql j k l);have y:=O (Qr j k l);have z:=O (Qi j k l);have A:=O (Qg j k l);have B:=O (Qd j k l);have F:=O (λ(V:T[a].x=9) (af:T[b].x=9) (ao:E) (h1:dH ao e d N T D)=>Kd m S ao D h1 a b k l hm V af);have G:=O (A6c j k l);have LA:=O (j a k).kj;have LB:=O (j b l).kj;have FA:=O (j a k).l9;have FB:=O (j b l).l9;have OA:=O (λt=>(j a k).of t);have OB:=O (λt=>(j b l).of t);clear a3 a9 ak am al an hm;generalize ay:T[a].x=f at*;generalize az:T[b].x=n at*;clear ay az;generalize T[a].ej=fs at*;generalize T[b].ej=gs at*;generalize T[a].M=xs at*;generalize T[b].M=ys at*;generalize T[a].ew=ox at*;generalize T[b].ew=oy at*;generalize D8 (tr T a) (tr T b)=b6 at*;obtain⟨e0,e1,e2⟩:=GZ w (.cells #[pV e] 53) (.cells #[U (a:Int)] 3) (.cells #[U (b:Int)] 3);have B0:Hid (eU (((w.alloc (.cells #[pV e] 53)).alloc (.cells #[U (a:Int)] 3)).alloc (.cells #[U (b:Int)] 3)) w.heap.size (pV e) 53):=⟨e0⟩;have B1:Hid (eU (((w.alloc (.cells #[pV e] 53)).alloc (.cells #[U (a:Int)] 3)).alloc (.cells #[U (b:Int)] 3)) (w.heap.size+1) (U (a:Int)) 3):=⟨e1⟩;have B2:Hid (eU (((w.alloc (.cells #[pV e] 53)).alloc (.cells #[U (a:Int)] 3)).alloc (.cells #[U (b:Int)] 3)) (w.heap.size+1+1) (U (b:Int)) 3):=⟨e2⟩;have s:∀{q ab ae},w.cell? (J q ab)=some ae->(((w.alloc (.cells #[pV e] 53)).alloc (.cells #[U (a:Int)] 3)).alloc (.cells #[U (b:Int)] 3)).cell? (J q ab)=some ae:=λ{q ab ae} t=>by
  have Z:q<w.heap.size:=World.block_lt_of_cell? w _ t;exact I4 (by simp;omega) (I4 (by simp;omega) (I4 Z t))
 have C3:=O (((I.alloc No w (.cells #[pV e] 53)).trans (I.alloc No _ (.cells #[U (a:Int)] 3)) (λ_ _ x=>x)).trans (I.alloc No _ (.cells #[U (b:Int)] 3)) (λ_ _ x=>x));have b0:=B0.u.cell;have b1:=B1.u.cell;have b2:=B2.u.cell;replace a5:=s a5;replace x0:=s x0;replace x1:=s x1;replace x2:=s x2;replace x3:=s x3;replace z0:=s z0;replace z1:=s z1;replace z2:=s z2;replace z3:=s z3;have aj:(((w.alloc (.cells #[pV e] 53)).alloc (.cells #[U (a:Int)] 3)).alloc (.cells #[U (b:Int)] 3)).heap.size=w.heap.size+3:=by simp
 clear s e0 e1 e2 aw fz;go_in;go_wp2_with fail;generalize (((w.alloc (.cells #[pV e] 53)).alloc (.cells #[U (a:Int)] 3)).alloc (.cells #[U (b:Int)] 3))=W at*;have b5:=O aj;have bg:g<W.heap.size:=by omega
 have bh:e<W.heap.size:=by omega
 have bo:w.heap.size<W.heap.size:=by omega
 have bp:w.heap.size+1<W.heap.size:=by omega
 have bq:w.heap.size+1+1<W.heap.size:=by omega
 clear aj;go_cut [7,8] (λv7 v8 wc=>∃p q:Nat,v7=pV p/\v8=pV q/\Hid (I No W wc)/\wc.cell? (J p 0)=some (U f)/\wc.cell? (J p 1)=some (.slice fa fs.length fc)/\wc.cell? (J p 2)=some (.slice la xs.length ac)/\wc.cell? (J p 3)=some (U ox)/\
  wc.cell? (J q 0)=some (U n)/\wc.cell? (J q 1)=some (.slice fb gs.length a6)/\wc.cell? (J q 2)=some (.slice aa ys.length bc)/\wc.cell? (J q 3)=some (U oy));case first=>
  go_region_held3 (λh=>h.cell? (J w.heap.size 0)=some (pV e)/\h.cell? (J (w.heap.size+1) 0)=some (U (a:Int))/\h.cell? (J (w.heap.size+1+1) 0)=some (U (b:Int))/\h.cell? (J e 0)=some (.slice (some (J g 0)) T.length av)/\
   h.cell? (J g (a*4))=some (U f)/\h.cell? (J g (a*4+1))=some (.slice fa fs.length fc)/\h.cell? (J g (a*4+2))=some (.slice la xs.length ac)/\h.cell? (J g (a*4+3))=some (U ox)/\
   h.cell? (J g (b*4))=some (U n)/\h.cell? (J g (b*4+1))=some (.slice fb gs.length a6)/\h.cell? (J g (b*4+2))=some (.slice aa ys.length bc)/\h.cell? (J g (b*4+3))=some (U oy))
   (go_keep) (fail);all_goals go_wp2_with fail
  all_goals go_meet
  all_goals exact⟨_,_,rfl,rfl,((I.alloc No _ _).trans (I.alloc No _ _) (λ_ _ x=>x)).trans (I.drewN No _ 1) (λ_ _ x=>x),by simp,by simp,by simp,by simp,by simp,by simp,by simp,by simp⟩
 case rest=>
  obtain⟨p,q,rfl,rfl,P,br,bs,bt,p3,q0,q1,q2,q3⟩:=hcut;have M:=O (H0.u.y (C3.u.trans P.u (λ_ _ x=>x)));have H:=O (C3.u.trans P.u (λ_ _ x=>x));have D0:=O (B0.u.y P.u);have D1:=O (B1.u.y P.u);have D2:=O (B2.u.y P.u);have d0:=D0.u.cell;have d1:=D1.u.cell;have d2:=D2.u.cell;have u:Hid (∀h R',bR wc d N T D m h->jP w d N T D (a+b) R' (.returned (.bool R')) h):=λh R' o=>Oo H.u o (by have:=R.u;omega);have L:=O (bR.refl M.u m);have O1:=O (A3 ar.u H.u (λ_ _ x=>x));have O2:=O (A3 au.u H.u (λ_ _ x=>x));have O3:=O (A3 ap.u H.u (λ_ _ x=>x));have O4:=O (A3 aq.u H.u (λ_ _ x=>x));clear x0 x1 x2 x3 z0 z1 z2 z3 b0 b1 b2 a5;by_cases hA5:f=5
  .subst hA5;have c:=r.u (.inl rfl);subst c;go_wp2;go_ret;exact u.u _ _ L.u
  have ba:(f==5)=false:=by simp[hA5]
  by_cases ag:n=5
  .subst ag;have c:=r.u (.inr (.inl rfl));subst c;go_wp2;go_ret;exact u.u _ _ L.u
  have bd:(n==5)=false:=by simp[ag]
  by_cases ah:n=6
  .subst ah;have c:=r.u (.inr (.inr rfl));subst c;go_wp2;go_ret;exact u.u _ _ L.u
  have be:(n==6)=false:=by simp[ah]
  have NW:Hid (¬(f=5\/n=5\/n=6)):=by show¬_;omega
  by_cases hA10:f=10
  .subst hA10;have c:=v.u NW.u rfl;have i:=vw m S wc D M.u la ac xs O1.u b w.heap.size (w.heap.size+1+1) l (λx t=>by have:=LA.u x t;have:=R.u;omega) D0.u D2.u;generalize (xs.any λx=>!D8 (tr T x.toNat) (tr T b))=R1 at*;subst c;clear r v y z A B F G;go_wp2_with fail;refine i.mono ?_;clear i;rintro a2 a4 ⟨rfl,o⟩;go_wp2;go_ret;exact u.u _ _ o
  have b9:(f==10)=false:=by simp[hA10]
  by_cases a8:n=10
  .subst a8;have c:=y.u NW.u hA10 rfl;have i:=we m S wc D M.u aa bc ys O2.u a w.heap.size (w.heap.size+1) k (λx t=>by have:=LB.u x t;have:=R.u;omega) D0.u D1.u;generalize (ys.any λx=>D8 (tr T a) (tr T x.toNat))=R1 at*;subst c;clear r v y z A B F G;go_wp2_with fail;refine i.mono ?_;clear i;rintro a2 a4 ⟨rfl,o⟩;go_wp2;go_ret;exact u.u _ _ o
  have bb:(n==10)=false:=by simp[a8]
  by_cases a7:f=n
  .subst a7;have b3:(f !=f)=false:=by simp
   by_cases h7:f=7
   .subst h7;have c:=A.u rfl rfl;have i:=Dw m S wc D M.u fa fc fs O3.u fb a6 gs O4.u (λp hp=>by have b4:=FA.u p hp;have bj:=R.u;exact⟨b4.1,by omega,λq Z=>by have:=FB.u q Z;omega⟩) (λq Z=>by have:=FB.u q Z;omega);generalize (gs.all λp=>N9 T fs p)=R1 at*;subst c;clear r v y z A B F G;go_wp2_with fail;refine i.mono ?_;clear i;rintro a2 a4 ⟨rfl,o⟩;go_wp2;go_ret;exact u.u _ _ o
   have b7:(f==7)=false:=by simp[h7]
   by_cases h8:f=8
   .subst h8;have c:=B.u rfl rfl;have bm:=OA.u (.inl rfl);have bn:=OB.u (.inl rfl);obtain⟨o1,rfl⟩:∃x:Nat,ox=(x:Int):=⟨ox.toNat,by omega⟩;obtain⟨o2,rfl⟩:∃x:Nat,oy=(x:Int):=⟨oy.toNat,by omega⟩;simp only[tQ]at c;have i:=xK S M.u (a:=o1) (b:=o2) (by have:=R.u;omega) (by omega) (by omega) wc L.u;generalize D8 (tr T o1) (tr T o2)=R1 at*;subst c;clear r v y z A B F G;go_wp2_with fail;refine i.mono ?_;clear i;rintro a2 a4 ⟨rfl,-,o⟩;go_wp2;go_ret;exact u.u _ _ o
   have b8:(f==8)=false:=by simp[h8]
   by_cases V:f=9
   .subst V;have i:=F.u rfl rfl wc M.u;clear r v y z A B F G;go_wp2_with fail;refine i.mono ?_;clear i;rintro a2 a4 ⟨rfl,o,hD⟩;go_wp2;go_ret;exact⟨rfl,(H.u.mono λ_ _ x=>x.elim).trans o (λ_ _ x=>x),hD⟩
   have af:(f==9)=false:=by simp[V]
   have c:=G.u NW.u hA10 rfl h7 h8 V;subst c;clear r v y z A B F G;go_wp2;go_ret;exact u.u _ _ L.u
  .have b3:(f !=n)=true:=by simp[a7]
   have c:=z.u NW.u hA10 a8 a7;subst c;clear r v y z A B F G;go_wp2;go_ret;exact u.u _ _ L.u
def DS:∀m,kD e d N T m
 |0=>λa b w D j _ _ _=>by omega
 |m+1=>by
  intro a b w D j c f h;by_cases i:a+b+1<=m
  .exact DS m a b w D i c f h
  .have g:a+b=m:=by omega
   exact wx m (DS m) w D h a b c f g
end
def NH{B}{w c:E}{a}{e}{b}{v}{n}{d}(h:w.ownsRow a e b v n d)(f:Below B w c)(j:∀g,v.ownBlock=some g->g<B):c.ownsRow a e b v n d:=
 A3 h (I.below f) λg i x=>by grind
def qB(b:Int)(l:List (Y×Int)):List (Y×Int):=l.map λp=>(p.1,p.2+b)
def Dj(b){l:List (Y×Int)}{j}(a):qB b (l.take (j+1))=qB b (l.take j)++[(l[j].1,l[j].2+b)]:=by
 unfold qB;grind[nQ]
def rX(b:Int)(l:bZ):bZ:=l.map λx=>x+b
def Do(b){l:bZ}{j}(a):rX b (l.take (j+1))=rX b (l.take j)++[l[j]+b]:=by
 unfold rX;grind[nQ]
theorem Jg(w:E)(a b)(t)(q)(d:q=w.heap.size):∀j u,[a,b][j]?=some u->(w.alloc (.cells #[a,b] t)).cell? (((J q 0)).add j)=some u:=by
 subst d;intro j u c;match j,c with
 |0,c=>simp_all[Addr.add]
 |1,c=>simp_all[Addr.add]
def zV{w wr y a:E}{n0 q o s j F}{e}{v b}{xs G}{h}(V:wr.heap[q]?=some (.cells h 81 (0,0)))(hn:n0<=q)(S:wr.ownsRow n0 e s v j xs)(he:e≠81)(A:Below n0 w wr)(R:n0<=w.heap.size)
 (i:I No wr y) (m:y.grownBy a v.ownBlock) (T:a.ownsRow n0 e s b F G):
 (a.cell? (J q o)=h[o]?)/\a.frozen? (J q o)=false/\q<a.heap.size/\Below n0 w (a.setCell (J q o) b)/\(a.setCell (J q o) b).ownsRow n0 e s b F G/\(a.setCell (J q o) b).heap[q]?=some (.cells (h.setIfInBounds o b) 81 (0,0))/\
  (∀(k) (c),k≠q->wr.heap[k]?=some (Obj.cells c 81 (0,0))->(a.setCell (J q o) b).heap[k]?=some (Obj.cells c 81 (0,0)))/\
  (∀{f} {t r} {u} {z},f≠e->f≠81->wr.ownsRow n0 f t u r z->(a.setCell (J q o) b).ownsRow n0 f t u r z):=by
 have B:=A3 S i (λ_ _ x=>x);have a2:∀(k:Nat) (c:Array Value),wr.heap[k]?=some (Obj.cells c 81 (0,0))->a.heap[k]?=some (Obj.cells c 81 (0,0)):=by
  intro k c p;have P:y.heap[k]?=some (.cells c 81 (0,0)):=by rw[i.block k (aI p) (λx=>x)];exact p
  rw[m.block k (aI P) (λd=>?_)]
  .omega
  .obtain⟨_,H,N⟩:=A9 B k d.symm;grind
 have l:=a2 q h V;have L:=(i.mono λ_ _ x=>x.elim).trans (I.grown m) (λk _ x=>(A9 B k x.symm).1);have M:I (λk=>n0<=k) wr (a.setCell (J q o) b):=L.trans (I.set _ _ _) (λk _ x=>by grind);refine⟨cell_of_row a q o _ _ _ l,frozen_of_row a q o _ _ l,(aI l),A.trans (M.ek (λ_ _ x=>x) (kQ R A.size)),A3 T (I.set _ _ _) (λg n d=>?_),heap_setCell_same a q o _ _ _ l,λk c a5 p=>?_,λ{f t r u z} a3 a4 W=>?_⟩
 .have Z:=d;grind[A9]
 .grind[heap_setCell_other]
 .have D:=A3 W i (λ_ _ x=>x);refine A3 (A3 D (I.grown m) (λg n d=>?_)) (I.set _ _ _) (λg n d=>?_)
  .obtain⟨_,H,N⟩:=A9 D g n;grind[A9,zQ,xW]
  .have Z:=d;grind[A9]
def Sr(w:E)(k o)(a)(c)(D A)(F B)(b:Nat)(hf:w.ownsRow 0 137 2 (.slice D a.length F) a.length (G0 a))(hl:w.ownsRow 0 3 1 (.slice A c.length B) c.length (C7 c))
 (hb:b<=4000) (h1:∀aj∈a,0<=aj.2/\aj.2<=4000) (h2:∀x∈c,0<=x/\x<=4000) (ho:0<=o/\o<=4000) (hn:a.length<=2000/\c.length<=2000):
 Calls prog 41 #[.agg #[U k,.slice D a.length F,.slice A c.length B,U o],U b] w λal w'=>Below w.heap.size w w'/\
  ∃ad ae ah ai,al=.returned (.agg #[U k,.slice ad a.length ae,.slice ah c.length ai,U (o+b)])/\w'.ownsRow w.heap.size 137 2 (.slice ad a.length ae) a.length (G0 (qB b a))/\w'.ownsRow w.heap.size 3 1 (.slice ah c.length ai) c.length (C7 (rX b c)):=by
 have HF:=O hf;have HL:=O hl;have H1:=O h1;have H2:=O h2;obtain⟨b2,b3⟩:=hn;have am:Hid (∀g,Value.ownBlock (.slice D a.length F)=some g->g<w.heap.size):=λg q=>(hf.lt g q).2;have an:Hid (∀g,Value.ownBlock (.slice A c.length B)=some g->g<w.heap.size):=λg q=>(hl.lt g q).2;go_in;go_wp2;obtain⟨z0,z1,z2⟩:=GZ w (.cells #[U k,.slice D a.length F,.slice A c.length B,U o] 81) (.cells #[U 0,sN,sN,U 0] 81) (.cells #[U k,sN,sN,U (o+b)] 81);have s:=O z0;have d:=O z1;have e:=O z2;have B3:=O ((((Below.refl w.heap.size w).alloc (vQ _) (.cells #[U k,.slice D a.length F,.slice A c.length B,U o] 81)).alloc (by simp) (.cells #[U 0,sN,sN,U 0] 81)).alloc (by simp;omega) (.cells #[U k,sN,sN,U (o+b)] 81));go_loopw [20] (λv wr=>∃(j:Nat) (m:Option Addr) (n:Nat),j<=a.length/\v=U j/\Hid (wr.heap[w.heap.size]?=some (.cells #[U k,.slice D a.length F,.slice A c.length B,U o] 81 (0,0)))/\Hid (wr.heap[w.heap.size+1]?=some (.cells #[U 0,sN,sN,U 0] 81 (0,0)))/\
  Hid (wr.heap[w.heap.size+2]?=some (.cells #[U k,.slice m j n,sN,U (o+b)] 81 (0,0)))/\Hid (Below w.heap.size w wr)/\Hid (wr.ownsRow w.heap.size 137 2 (.slice m j n) j (G0 (qB b (a.take j))))) (λv _=>a.length-(intOf v).toNat);case atStart=>exact⟨0,none,0,wQ _,rfl,s.u,d.u,e.u,B3.u,by show World.ownsRow _ _ _ _ _ _ _;exact kW _ _ _ _⟩
 case round=>
  clear s d e B3;obtain⟨j,m,n,hj,rfl,s,d,e,f,p⟩:=hrel;have d0:wr.cell? (J (w.heap.size+2) 1)=some (.slice m j n):=cr e.u rfl;have ag:=(aI e.u);by_cases a7:j<a.length
  .obtain⟨g,rfl,q,aq,a8,y0,y1⟩:=U8 (NH HF.u f.u am.u) a7;have G:=H1.u a[j] (mQ a7);have W:=O (Dj b a7);generalize a[j]=fj at*;obtain⟨nm,y⟩:=fj;simp only at y0 y1 G W;unfold maxLen at a8;obtain⟨i0,a5,a9,aa,ab⟩:=info_parts Tryz.jw;have N:=O ((p.u.alloc (.cells #[.string ⟨nm.toArray⟩,U y] 137)).alloc (.cells #[.string ⟨nm.toArray⟩,U (y+b)] 137));have ar:=f.u.size;go_wp2_with (at_builtin;refine wpList_append_own_at _ rfl _ _ 79 rfl w.heap.size 137 i0 _ 2 24 underlying79 a5 a9 aa ab rfl (by decide) _ _ _ rfl N.u (J (wr.heap.size+1) 0) 1 1 [.string ⟨nm.toArray⟩,U (y+b)] rfl rfl ?c1 ?c2 ?c3 ?c4 ?c5 ?_);case c1=>simp_all[Jg]
   case c2=>intro ax M;simp at M;obtain rfl|rfl:=M<;>rfl
   case c3=>grind[maxLen]
   case c4=>omega
   case c5=>simp;omega
   .intro v' ac z L _ a4;obtain⟨ay,az,rfl⟩:=B8 z;obtain⟨P,av,aw,R,S,T,H,Z⟩:=zV (o:=1) e.u (by omega) p.u (by decide) f.u (vQ _) ((I.alloc No wr _).trans (I.alloc No _ _) (λ_ _ x=>x)) L z;have K0:ac.cell? (J (w.heap.size+2) 1)=some (.slice m j n):=P;have K3:=O R;have K4:=O S;have K5:=O T;have K6:=O (H w.heap.size _ (by omega) s.u);have K7:=O (H (w.heap.size+1) _ (by omega) d.u);clear P R S T H Z z L a4 N p s d e f;go_wp2_with fail;go_roundw;case rel=>exact⟨j+1,ay,az,by omega,by go_num,K6.u,K7.u,K5.u,K3.u,by
     show World.ownsRow _ _ _ _ _ _ _;rw[W.u,GW];exact K4.u⟩
    grind[intOf]
  .have ap:j=a.length:=by omega
   subst ap;have r:=O p.u;rw[jZ]at r;have BB:=O f.u;have e2:wr.cell? (J w.heap.size 2)=some (.slice A c.length B):=cr s.u rfl;have au:=(aI s.u);have af:=(aI d.u);clear p;go_wp2_with fail;go_loopw [40] (λv wq=>∃(i:Nat) (t:Option Addr) (u:Nat),i<=c.length/\v=U (i:Int)/\Hid (wq.heap[w.heap.size+1]?=some (.cells #[U 0,sN,sN,U 0] 81 (0,0)))/\
    Hid (wq.heap[w.heap.size+2]?=some (.cells #[U k,.slice m a.length n,.slice t i u,U (o+b)] 81 (0,0)))/\Hid (Below w.heap.size w wq)/\Hid (wq.ownsRow w.heap.size 137 2 (.slice m a.length n) a.length (G0 (qB b a)))/\Hid (wq.ownsRow w.heap.size 3 1 (.slice t i u) i (C7 (rX b (c.take i))))) (λv _=>c.length-(intOf v).toNat);case atStart=>exact⟨0,none,0,wQ _,rfl,d.u,e.u,BB.u,r.u,by show World.ownsRow _ _ _ _ _ _ _;exact kW _ _ _ _⟩
   case round=>
    clear s d e f d0 e2 au af ag r BB;obtain⟨i,t,u,hi,rfl,d,e,f,r,p⟩:=hrel;have d0:wr.cell? (J (w.heap.size+2) 2)=some (.slice t i u):=cr e.u rfl;have ag:=(aI e.u);have af:=(aI d.u);by_cases a6:i<c.length
    .obtain⟨g,rfl,q,aq,a8,y0⟩:=D6 (NH HL.u f.u an.u) a6;have G:=H2.u c[i] (mQ a6);have W:=O (Do b a6);generalize c[i]=y at*;unfold maxLen at a8;obtain⟨i0,a5,a9,aa,ab⟩:=info_parts Tryz.fm;have N:=O (p.u.alloc (.cells #[U (y+b)] 3));have ar:=f.u.size;go_wp2_with (at_builtin;refine wpList_append_own_at _ rfl _ _ 54 rfl w.heap.size 3 i0 (U 0) 1 8 underlying54 a5 a9 aa ab rfl (by decide) _ _ _ rfl N.u (J wr.heap.size 0) 1 1 [U (y+b)] rfl rfl ?c1 ?c2 ?c3 ?c4 ?c5 ?_);case c1=>simp_all[cell_one_new]
     case c2=>intro ax M;simp at M;obtain rfl:=M;rfl
     case c3=>simp only[maxLen];omega
     case c4=>omega
     case c5=>simp;omega
     .intro v' ac z L _ a4;obtain⟨b0,b1,rfl⟩:=B8 z;obtain⟨P,av,aw,R,S,T,H,Z⟩:=zV (o:=2) e.u (by omega) p.u (by decide) f.u (vQ _) (I.alloc No wr _) L z;have K0:ac.cell? (J (w.heap.size+2) 2)=some (.slice t i u):=P;have K3:=O R;have K4:=O S;have K5:=O T;have K6:=O (H (w.heap.size+1) _ (by omega) d.u);have K7:=O (Z (by decide) (by decide) r.u);clear P R S T H Z z L a4 N p d e f r;go_wp2_with fail;go_roundw;case rel=>exact⟨i+1,b0,b1,by omega,by go_num,K6.u,K5.u,K3.u,K7.u,by
       show World.ownsRow _ _ _ _ _ _ _;rw[W.u,Q9];exact K4.u⟩
      grind[intOf]
    .have ao:i=c.length:=by omega
     subst ao;have OL:=O p.u;rw[jZ]at OL;have m0:wr.cell? (J (w.heap.size+2) 0)=some (U k):=cr e.u rfl;have m1:wr.cell? (J (w.heap.size+2) 1)=some (.slice m a.length n):=cr e.u rfl;have m3:wr.cell? (J (w.heap.size+2) 3)=some (U (o+b)):=cr e.u rfl;have n0:wr.cell? (J (w.heap.size+1) 0)=some (U 0):=cr d.u rfl;have n1:wr.cell? (J (w.heap.size+1) 1)=some (sN):=cr d.u rfl;have n2:wr.cell? (J (w.heap.size+1) 2)=some (sN):=cr d.u rfl;have n3:wr.cell? (J (w.heap.size+1) 3)=some (U 0):=cr d.u rfl;have nf:=λo=>frozen_of_row wr _ o _ _ d.u;have V:∀a0 a1 h l,I (λk=>k=w.heap.size+1) wr ((((wr.setCell (J (w.heap.size+1) 0) a0).setCell (J (w.heap.size+1) 1) a1).setCell (J (w.heap.size+1) 2) h).setCell (J (w.heap.size+1) 3) l):=λa0 a1 h l=>
      (((I.set wr (J (w.heap.size+1) 0) a0).trans (I.set _ (J (w.heap.size+1) 1) a1) (λ_ _ x=>x)).trans (I.set _ (J (w.heap.size+1) 2) h) (λ_ _ x=>x)).trans (I.set _ (J (w.heap.size+1) 3) l) (λ_ _ x=>x);have HX:∀a0 a1 h l,Hid (Below w.heap.size w ((((wr.setCell (J (w.heap.size+1) 0) a0).setCell (J (w.heap.size+1) 1) a1).setCell (J (w.heap.size+1) 2) h).setCell (J (w.heap.size+1) 3) l)/\
      ((((wr.setCell (J (w.heap.size+1) 0) a0).setCell (J (w.heap.size+1) 1) a1).setCell (J (w.heap.size+1) 2) h).setCell (J (w.heap.size+1) 3) l).ownsRow w.heap.size 137 2 (.slice m a.length n) a.length (G0 (qB b a))/\
      ((((wr.setCell (J (w.heap.size+1) 0) a0).setCell (J (w.heap.size+1) 1) a1).setCell (J (w.heap.size+1) 2) h).setCell (J (w.heap.size+1) 3) l).ownsRow w.heap.size 3 1 (.slice t c.length u) c.length (C7 (rX b c))):=by
      intro a0 a1 h l;refine⟨f.u.trans ((V a0 a1 h l).ek (λk _ x=>by omega) f.u.size),A3 r.u (V a0 a1 h l) (λg q G=>?_),A3 OL.u (V a0 a1 h l) (λg q G=>?_)⟩
      .subst G;obtain⟨_,ak,hh⟩:=A9 r.u _ q;have hz:=d.u;grind
      .subst G;obtain⟨_,ak,hh⟩:=A9 OL.u _ q;have hz:=d.u;grind
     clear V;go_wp2_with fail;exact bodyPost_ret (v:=.agg #[U k,.slice m a.length n,.slice t c.length u,U (o+b)]) (by simp[results,results41,go_sem,n0,n1,n2,n3]) rfl ⟨(HX _ _ _ _).u.1,m,n,t,u,rfl,(HX _ _ _ _).u.2.1,(HX _ _ _ _).u.2.2⟩
section
variable{a mb N:Nat}
def Iy(T b:List Ty){j}(c):W9 T (b.take (j+1))=W9 T (b.take j)++[iU T.length b[j]]:=by
 unfold W9;grind[nQ]
def kC(a:Nat)(v:Value)(k:Nat):Prop:=k=a\/some k=v.ownBlock
structure gM(w:E)(a mb N:Nat)(T:List Ty)(D:Dt)(ok:Nat->Prop):Prop where
 ru:aU T
 fy:fS w mb N T D
 eo:∃yv yx,w.heap[a]?=some (.cells #[yv,.map (some mb)] 108 (0,0))/\w.ownsRow a 81 4 yv T.length yx/\dS (dM w ok) T yx
def dM.mono{w}{c ok'}(d:∀g,c g->g<w.heap.size->ok' g)(t)(b)(h:dM w c t b):dM w ok' t b:=dM.P (I.refl No w) (λ_ _ _ x=>x.elim) d t b h
def gM.kt{w}{T}{D}{g}(h:gM w a mb N T D g):dH w a mb N T D:=by
 obtain⟨b,c,i,j,d,e,f⟩:=h;exact⟨b,c,i,j,d,e,f.imp (dM.mono λ_ _ _=>trivial)⟩
def dH.jf{w}{T:List Ty}{D}(h:dH w a mb N T D):gM w a mb N T D (λ_=>True):=⟨h.ok,h.fy,h.eo⟩
theorem gM.P{S}{w w'}{T}{D d}{c ok'}(h:gM w a mb N T D c)(b:I S w w')(o:fS w' mb N T d)
 (r:∀k f e,w.heap[k]?=some (.cells f e (0,0))->(e=108\/e=81\/((e=137\/e=3)/\c k))->¬S k) (p:∀g,c g->g<w.heap.size->ok' g):gM w' a mb N T d ok':=by
 obtain⟨l,_,s,t,i,j,q⟩:=h;refine⟨l,o,s,t,?_,A3 j b λg m x=>?_,q.imp (dM.P b (λg u _ v n=>?_) p)⟩
 .rw[b.block a (aI i) (r a _ _ i (.inl rfl))];omega
 .obtain⟨_,f,n⟩:=A9 j g m;grind
 grind
theorem gM.y{w d}{T}{D}{c}(h:gM w a mb N T D c)(b:I No w d):gM d a mb N T D c:=h.P b (h.fy.P b (λx=>x)) (λ_ _ _ _ _ x=>x) (λ_ x _=>x)
def gM.push{ok}{wr w4 w5:E}{T}{D}{b}{c gg cap}{p}{t}{fv lv}(m:wr.heap[a]?=some (.cells #[.slice b T.length c,.map (some mb)] 108 (0,0)))(r:aU T)(P:dP t T.length)(o:fS wr mb N T D)(V:T.length+1<=N)
 (v:wr.ownsRow a 81 4 (.slice b T.length c) T.length p) (L:dS (dM wr ok) T p) (i:I No wr w4) (R:dM w4 ok t [U t.x,fv,lv,U t.ew])
 (u:w4.grownBy w5 (Value.ownBlock (.slice b T.length c))) (y:w5.ownsRow a 81 4 (.slice (some (J gg 0)) (T.length+1) cap) (T.length+1) (p++[U t.x,fv,lv,U t.ew])):
 w5.cell? (J a 0)=some (.slice b T.length c)/\w5.frozen? (J a 0)=false/\a<w5.heap.size/\I (kC a (.slice b T.length c)) wr (w5.setCell (J a 0) (.slice (some (J gg 0)) (T.length+1) cap))/\gM (w5.setCell (J a 0) (.slice (some (J gg 0)) (T.length+1) cap)) a mb N (T++[t]) D ok/\
  (w5.setCell (J a 0) (.slice (some (J gg 0)) (T.length+1) cap)).cell? (J a 0)=some (.slice (some (J gg 0)) (T.length+1) cap):=by
 have w:=A3 v i (λ_ _ x=>x);have n:w4.heap[a]?=some (.cells #[.slice b T.length c,.map (some mb)] 108 (0,0)):=by rw[i.block a (aI m) (λx=>x)];exact m
 have H:some a≠Value.ownBlock (.slice b T.length c):=by
  intro d;obtain⟨_,h,f⟩:=A9 w a d.symm;rw[n]at f;simp only[zQ,xW]at f;exact absurd f.2.1 (by decide)
 have j:w5.heap[a]?=some (.cells #[.slice b T.length c,.map (some mb)] 108 (0,0)):=by rw[u.block a (aI n) H];exact n
 have l:I (kC a (.slice b T.length c)) w4 (w5.setCell (J a 0) (.slice (some (J gg 0)) (T.length+1) cap)):=((I.grown u).mono λ_ _ x=>.inr x).trans (I.set _ _ _) (λ_ _ x=>.inl x);have q:=(i.mono λ_ _ x=>x.elim).trans l (λ_ _ x=>x);have s:(w5.setCell (J a 0) (.slice (some (J gg 0)) (T.length+1) cap)).heap[a]?=some (.cells #[.slice (some (J gg 0)) (T.length+1) cap,.map (some mb)] 108 (0,0)):=by rw[heap_setCell_same w5 a 0 _ _ _ j];rfl
 have G:¬kC a (.slice b T.length c) mb:=by
  rintro(d|d)
  .subst d;exact o.tag _ _ _ m
  .obtain⟨_,h,f⟩:=A9 v mb d.symm;exact o.tag _ _ _ f
 have z:∀g,ok g->g<w4.heap.size->kC a (.slice b T.length c) g->(∃h e,w4.heap[g]?=some (.cells h e (0,0))/\(e=137\/e=3))->False:=by
  rintro g _ _ (d|d) ⟨h,e,f,W⟩
  .grind
  .obtain⟨_,A,B⟩:=A9 w g d.symm;grind
 have M:=L.imp (dM.P i (λ_ _ _ x=>x.elim) (λ_ x _=>x));refine⟨cr j rfl,frozen_of_row w5 a 0 _ _ j,(aI j),q,⟨r.snoc P,(o.P q G).more r [t] (by grind),_,_,s,?_,(M.imp (dM.P l z (λ_ x _=>x))).snoc (dM.P l z (λ_ x _=>x) _ _ R)⟩,cr s rfl⟩;have:=A3 y (I.set w5 (J a 0) (.slice (some (J gg 0)) (T.length+1) cap)) (λk F d=>by
  have S:k=a:=d;subst S;obtain⟨_,A,B⟩:=A9 y k F;grind);grind
def zP{o}{T}{D}(w)(h:gM w a mb N T D o)(t)(g l)(j i n m)(M:dM w o t [U t.x,.slice g j i,.slice l n m,U t.ew])(hk:dP t T.length)(Z:T.length+1<=N):
 Calls prog 25 #[pV a,.agg #[U t.x,.slice g j i,.slice l n m,U t.ew]] w λe P=>e=.returned (U T.length)/\(∃v,w.cell? (J a 0)=some v/\I (kC a v) w P)/\gM P a mb N (T++[t]) D o:=by
 have a8:=h.kt.fq;obtain⟨hT,F,yv,yx,b,f,L⟩:=h;obtain⟨d,c,rfl⟩:=B8 f;have B:=(aI b);have z:w.cell? (J a 0)=some (.slice d T.length c):=cr b rfl;have W:=frozen_of_row w a 0 _ _ b;have s:=O (λ(S a5:E) (q p:Nat) (A:I No w S)=>gM.push (ok:=o) (w4:=S) (w5:=a5) (gg:=q) (cap:=p) b hT hk F Z f L A (dM.P A (λ_ _ _ x=>x.elim) (λ_ x _=>x) _ _ M));have G:Value.ownBlock (.slice d T.length c)≠some a:=by
  intro hx;obtain⟨_,a6,r⟩:=A9 f a hx;rw[b]at r;simp only[zQ,xW]at r;exact absurd r.2.1 (by decide)
 have V:Hid (w.cell? (J a 0)=some (.slice d T.length c)):=z;have y:=O f;obtain⟨i0,hi,a2,a3,a4⟩:=info_parts Tryz.lf;clear M b f L F;go_in;go_wp2_with fail
 go_region_law ((refine step_append_lies _ (by rfl) _ _ _ (by rfl) a 81 i0 _ 4 64 underlying50 hi a2 a3 a4 rfl (by omega) (.slice d T.length c) T.length yx (by rfl) (((y.u.alloc _).alloc _).drew) (J (w.heap.size+1) 0) 1 1 [U t.x,.slice g j i,.slice l n m,U t.ew] (by rfl) (by rfl) (World.news_of_block (cs:=#[U t.x,.slice g j i,.slice l n m,U t.ew]) (t:=81) (fr:=(0,0)) (JP w _ _)) (by simp [Value.oneCell']) (by omega) (by grind[maxLen]) (by omega) (by simp;omega) (w.heap.size+2) (by simp) ?_;intro q p R H k a7 a9;have z4:R.cell? (J a 0)=some (.slice d T.length c):=by rw[k.cell_far _ (by simp;omega) (Ne.symm G)];exact I4 (by simp;omega) (I4 B z)
                 have y4:R.frozen? (J a 0)=false:=by rw[k.frozen_far _ (by simp;omega) (Ne.symm G)];exact S6 (by simp;omega) (S6 B W)));all_goals
  have u:=O (s.u _ _ q p (((I.alloc No w _).trans (I.alloc No _ _) (λ_ _ x=>x)).trans (I.drewN No _ 1) (λ_ _ x=>x)) k H);clear k H s y;go_wp2;go_ret;exact⟨J5 (by omega),⟨_,V.u,u.u.2.2.2.1⟩,u.u.2.2.2.2.1⟩
theorem YV{w:E}{o:Option Addr}{l}{b:List Ty}{p:List Value}(k:w.ownsRow 0 81 4 (.slice o b.length l) b.length p)(u:dS (dM w (λ_=>True)) b p){i}(t):
 ∃g c d f j,o=some (J g 0)/\g<w.heap.size/\b.length<=l/\l<=maxLen/\w.cell? (J g (i*4))=some (U b[i].x)/\w.cell? (J g (i*4+1))=some (.slice c b[i].ej.length d)/\w.cell? (J g (i*4+2))=some (.slice f b[i].M.length j)/\
  w.cell? (J g (i*4+3))=some (U b[i].ew)/\w.ownsRow 0 137 2 (.slice c b[i].ej.length d) b[i].ej.length (G0 b[i].ej)/\w.ownsRow 0 3 1 (.slice f b[i].M.length j) b[i].M.length (C7 b[i].M):=by
 obtain⟨g,rfl,_,s,q,r,e⟩:=D4 k (by omega);obtain⟨z,v,k⟩:=dS.at (λ_ _ h=>h.len) i t u;obtain⟨x,y,rfl,m,n,_⟩:=v;obtain⟨c,d,rfl⟩:=B8 m;obtain⟨f,j,rfl⟩:=B8 n;refine⟨g,c,d,f,j,rfl,s,q,r,e _ _ ?_,e _ _ ?_,e _ _ ?_,e _ _ ?_,m,n⟩
 .have:=k 0 (by omega);grind
 .grind
 .grind
 grind
def uu{w:E}{v}{n}{h}{d}(j:w.heap[a]?=some (.cells d 108 (0,0)))(f:w.ownsRow a 81 4 v n h):∀g,True->g<w.heap.size->kC a v g->(∃b e,w.heap[g]?=some (.cells b e (0,0))/\(e=137\/e=3))->False:=by
 rintro g _ _ (c|c) ⟨b,e,l,k⟩
 .grind
 .obtain⟨_,i,m⟩:=A9 f g c.symm;grind
def SD(w:E)(a:Nat)(v:Value)(wr:E)(n:Nat):Prop:=∃b c,wr.cell? (J a 0)=some (.slice b n c)/\(Value.ownBlock (.slice b n c)=v.ownBlock\/∀g,Value.ownBlock (.slice b n c)=some g->w.heap.size<=g)
def Az{T:List Ty}{ae}{v:Nat->Prop}(w)(a6:gM w a mb N T ae v)(b4:∀ g,w.heap.size<=g->v g)(b:List Ty)(xa:Option Addr)(xc)(xx:List Value)(P:w.ownsRow 0 81 4 (.slice xa b.length xc) b.length xx)(b9:dS (dM w (λ_=>True)) b xx)(hX:aU b)
 (hq:∀t∈b,t.ej.length<=1001/\t.M.length<=1001/\(t.x=8\/t.x=9\/t.ew=0)) (hN:T.length+b.length<=N) (V) (bs:w.cell? (J a 0)=some V) (br:∀g,V.ownBlock=some g->Value.ownBlock (.slice xa b.length xc)≠some g):
 Calls prog 24 #[pV a,.slice xa b.length xc] w λe w'=>e=.returned (U (T.length+b.length-1))/\I (kC a V) w w'/\gM w' a mb N (W9 T b) ae v/\SD w a V w' (T.length+b.length):=by
 have c5:=a6.fy.fq;obtain⟨W,cc,ag,ai,-⟩:=a6.eo;have bt:V=W:=by
  have:w.cell? (J a 0)=some W:=cr ag rfl;rw[bs]at this;exact vZ this
 subst bt;obtain⟨a2,a5,rfl⟩:=B8 ai;have bi:Hid (∀wr,I (kC a (.slice a2 T.length a5)) w wr->wr.ownsRow 0 81 4 (.slice xa b.length xc) b.length xx/\dS (dM wr (λ_=>True)) b xx):=by
  intro wr n;refine⟨A3 P n (λg B l=>?_),b9.imp (dM.P n (uu ag ai) (λ_ _ _=>trivial))⟩;obtain l|l:=l
  .subst l;obtain⟨_,bm,hh⟩:=A9 P g B;grind
  .grind
 have HQ:=O hq;have H0:=O a6;have bj:=O hX;clear a6 P b9 hq br ag ai hX;have aw:∀j,j<=b.length->(W9 T (b.take j)).length=T.length+j:=λj hj=>by grind[W9]
 have bh:=O aw;clear aw;go_in;go_wp2_with fail;go_loopw [15] (λan wr=>∃(j:Nat),j<=b.length/\an=U (j:Int)/\Hid (gM wr a mb N (W9 T (b.take j)) ae v)/\Hid (I (kC a (.slice a2 T.length a5)) w wr)/\Hid (SD w a (.slice a2 T.length a5) wr (T.length+j))) (λan _=>b.length-(intOf an).toNat);case atStart=>exact⟨0,wQ _,rfl,by grind[W9],I.refl _ _,⟨a2,a5,by omega,.inl rfl⟩⟩
 case round=>
  obtain⟨j,hj,rfl,G,CR,RR⟩:=hrel;have aa:=bh.u j hj;by_cases a9:j<b.length
  .obtain⟨bb,ba⟩:=bi.u wr CR.u;obtain⟨g,H,L,R,S,rfl,B,c7,bp,x0,x1,x2,x3,al,am⟩:=YV bb ba a9;unfold maxLen at bp;have p:=bj.u j a9;have ac:=HQ.u b[j] (mQ a9);have HB:=O (Iy T b a9);have av:Hid (dP (iU T.length b[j]) (W9 T (b.take j)).length):=by
    show dP _ _;rw[aa];exact p.mv T.length
   have ay:=p.l9;have az:=p.kj;have aj:0<=b[j].ew/\b[j].ew<=4000:=by
    obtain h8|h8|h8:=ac.2.2
    .have:=p.of (.inl h8);omega
    .have:=p.of (.inr h8);omega
    .omega
   have b7:=ac.1;have b8:=ac.2.1;clear p ac bb ba;generalize b[j]=xj at*;obtain⟨k,f,h,o⟩:=xj;simp only at x0 x1 x2 x3 al am ay az aj b7 b8;have bg:=Sr (wr.alloc (.cells #[U k,.slice H f.length L,.slice R h.length S,U o] 81)).drew k o f h H R L S T.length (al.alloc _) (am.alloc _) (by omega) (λbz hp=>by grind) (λbz hp=>by grind) aj ⟨by omega,by omega⟩;obtain⟨y,c,a3,ak⟩:=RR.u;obtain⟨W,yx,s,M,u⟩:=G.u.eo;have bu:W=.slice y (T.length+j) c:=by
    have:wr.cell? (J a 0)=some W:=cr s rfl;rw[a3]at this;exact(vZ this).symm
   subst bu;have ab:=(aI s);have c4:=frozen_of_row wr a 0 _ _ s;have bn:(W9 T (b.take j)).length+1<=N:=by omega
   rw[<-aa]at a3 ak s M;have bo:=O aa;have b3:=G.u.ru;have b0:=G.u.fy;generalize W9 T (b.take j)=q at*;have c6:q.length<=4000:=by omega
   have HP:=O (λ(ap c3:E) (r a4:Nat) (fv bc:Value) (h1:I No wr ap) (p:dM ap v (iU T.length ⟨k,f,h,o⟩) [U k,fv,bc,U (o+T.length)])=>gM.push (ok:=v) (w4:=ap) (w5:=c3) (gg:=r) (cap:=a4) (fv:=fv) (lv:=bc) s b3 av.u b0 bn M u h1 p);have b1:Value.ownBlock (.slice y q.length c)≠some a:=by
    intro P;obtain⟨_,bm,hh⟩:=A9 M a P;rw[s]at hh;simp only[zQ,xW]at hh;exact absurd hh.2.1 (by decide)
   have be:Hid (∀d,Below (wr.alloc (.cells #[U k,.slice H f.length L,.slice R h.length S,U o] 81)).drew.heap.size (wr.alloc (.cells #[U k,.slice H f.length L,.slice R h.length S,U o] 81)).drew d->I No wr d):=by
    intro d a7;exact((I.alloc No wr _).trans (I.drewN No _ 1) (λ_ _ x=>x)).trans (I.below a7) (λkk hk x=>by
     have l:(wr.alloc (.cells #[U k,.slice H f.length L,.slice R h.length S,U o] 81)).drew.heap.size=wr.heap.size+1:=by simp[World.drew]
     omega)
   have HY:=O (λd (n:I No wr d)=>A3 M n (λ_ _ x=>x));have m:=O (λd (n:I No wr d)=>show d.cell? (J a 0)=some (.slice y q.length c)/\d.frozen? (J a 0)=false/\a<d.heap.size from ⟨by rw[World.cell?_of_block (n.block a ab (λx=>x))];omega,by rw[World.frozen?_of_block (n.block a ab (λx=>x))];omega,yQ ab n.size⟩);have HR:=O ak;have Z:=O CR.u;obtain⟨i0,hi,bv,bw,bx⟩:=info_parts Tryz.lf;clear al am ay az aj b7 b8 s M u b3 b0 ak G CR av aa;go_wp2_with fail;go_region_law (first
    | (refine step_append_lies _ (by rfl) _ _ _ (by rfl) a 81 i0 _ 4 64 underlying50 hi bv bw bx rfl (by omega) (.slice y q.length c) q.length yx (by rfl) ((HY.u d i.u).alloc _) (J d.heap.size 0) 1 1 [U k,.slice z f.length A,.slice D h.length F,U (o+T.length)] (by rfl) (by rfl) (World.news_of_block (cs:=#[U k,.slice z f.length A,.slice D h.length F,U (o+T.length)]) (t:=81) (fr:=(0,0)) (yY d _)) (by simp [Value.oneCell']) (by omega) (by simp only [maxLen];omega) (by omega) (by simp;omega) (d.heap.size+1) (by simp) ?_;intro r a4 ao b6 a8 ax c8;have z4:ao.cell? (J a 0)=some (.slice y q.length c):=by rw[a8.cell_far _ (by have:=(m.u d i.u).2.2;simp;omega) (Ne.symm b1)];exact I4 (m.u d i.u).2.2 (m.u d i.u).1
       have y4:ao.frozen? (J a 0)=false:=by rw[a8.frozen_far _ (by have:=(m.u d i.u).2.2;simp;omega) (Ne.symm b1)];exact S6 (m.u d i.u).2.2 (m.u d i.u).2.1)
    |(go_simp;refine bg.mono ?_;rintro e d ⟨a7,z,A,D,F,rfl,b2,b5⟩;have i:=O (be.u d a7);have zc:=(m.u d i.u).1;have c9:=(m.u d i.u).2.2;have aq:=O b2;have ar:=O b5;clear a7 b2 b5));all_goals
    have au:Hid (dM (d.alloc (.cells #[U k,.slice z f.length A,.slice D h.length F,U (o+T.length)] 81)) v (iU T.length ⟨k,f,h,o⟩) [U k,.slice z f.length A,.slice D h.length F,U (o+T.length)]):=by
     refine⟨_,_,rfl,?_,?_,λg B=>b4 g (kQ Z.u.size (kQ (by simp) (aq.u.lt g B).1)),λg B=>b4 g (kQ Z.u.size (kQ (by simp) (ar.u.lt g B).1))⟩
     .have:=(C8 aq.u (wQ _)).alloc (.cells #[U k,.slice z f.length A,.slice D h.length F,U (o+T.length)] 81);grind[iU,qB]
     .have:=(C8 ar.u (wQ _)).alloc (.cells #[U k,.slice z f.length A,.slice D h.length F,U (o+T.length)] 81);grind[iU,rX]
    have af:=O (HP.u _ ao r a4 _ _ (i.u.trans (I.alloc No d _) (λ_ _ x=>x)) au.u a8 b6);have bd:=O ax;have bf:=O (i.u.size);clear a8 b6 ax HP HY au;go_wp2;go_roundw;case rel=>
     have ca:=Z.u.size;refine⟨j+1,by omega,by go_num,by rw[HB.u];exact af.u.2.2.2.2.1,Z.u.trans af.u.2.2.2.1 (λcb hi l=>?_),⟨some (J r 0),a4,?_,?_⟩⟩
     .obtain l|l:=l
      .exact .inl l
      .obtain u|u:=HR.u
       .exact .inr (l.trans u)
       grind
     .have e:T.length+(j+1)=q.length+1:=by have:=bo.u;omega
      rw[e];exact af.u.2.2.2.2.2
     .obtain ha|ha:=bd.u
      .obtain u|u:=HR.u
       .left;show some r=_;grind
       .right;intro g' ah;have e:some r=some g':=ah;grind
      .right;intro g' ah;have e:some r=some g':=ah;cases e;have:=bf.u;omega
    grind[intOf]
  .have bq:j=b.length:=by omega
   subst bq;rw[jZ]at*;obtain⟨y,c,a3,-⟩:=id RR.u;have ab:a<wr.heap.size:=World.block_lt_of_cell? wr _ a3;go_wp2_with fail;go_ret;exact⟨J5 (by omega),CR.u,G.u,RR.u⟩
end
def Sk(w:E):Calls prog 22 #[] w λe a=>e=.returned (pV (w.heap.size+1))/\I No w a/\dH a (w.heap.size+1) w.heap.size 4000 [] (.map [])/\a.cell? (J (w.heap.size+1) 0)=some (sN):=by
 have f:=@run_makeMap prog;have b:Hid (((w.alloc (.map #[] 0)).alloc (.cells #[sN,.map (some w.heap.size)] 108)).heap[w.heap.size+1]?=some (.cells #[sN,.map (some w.heap.size)] 108 (0,0))):=by
  have:=yY (w.alloc (.map #[] 0)) (.cells #[sN,.map (some w.heap.size)] 108);rw[show (w.alloc (.map #[] 0)).heap.size=w.heap.size+1 from by simp]at this;exact this
 have c:Hid (dH ((w.alloc (.map #[] 0)).alloc (.cells #[sN,.map (some w.heap.size)] 108)) (w.heap.size+1) w.heap.size 4000 [] (.map [])):=
  ⟨by intro i d;grind,(Sf w 4000 (vQ _)).P (I.alloc No _ _) (λx=>x),_,[],b.u,kW _ _ _ _,rfl⟩;go_in;go_wp2;go_ret;exact⟨rfl,(I.alloc No _ _).trans (I.alloc No _ _) (λ_ _ x=>x),c.u,by simp⟩
