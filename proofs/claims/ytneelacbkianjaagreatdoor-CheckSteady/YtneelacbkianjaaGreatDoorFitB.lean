/-
  A part of the proof.
-/
import Derived.Test.YtneelacbkianjaaGreatDoorFitA
import Derived.Deep.DeepCutAuto
set_option maxHeartbeats 16000000
set_option maxRecDepth 100000
namespace Go.Proofs.YtneelacbkianjaaGreatDoor
open Go.Proofs.Tryz
open Go.RowKit Go.Maps
section
variable{b a N:Nat}{T:List Ty}
theorem Mid.trans{w g i:lZ}{D c:Dt}{m:Nat}(h:Mid w a N T D m g)(o:∀p q,p<N->q<N->m<=p+q->at2 c p q=at2 D p q)(k:Mid g a N T c m i):Mid w a N T D m i:=by
 obtain⟨j,l,n⟩:=k.memo;exact⟨h.chg.trans k.chg (λ_ _ x=>x),j,l,λp q d f e=>(n p q d f e).trans (o p q d f e)⟩
theorem Mid.box{w c:lZ}{D:Dt}{m q:Nat}{v:Value}{e:TypeId}{d:Dt}(h:Mid w a N T D m c)(g:Mst w a N T d)(f:Box w q v e):Box c q v e:=f.memo g h.chg
theorem C7c(m:Nat)(IH:P2a b a N T m)(w:lZ)(D:Dt)(h:Shp w b a N T D)(B:Option Addr)(C:Nat)(d:List (bZ×Int))(Z:w.ownsRow 0 131 2 (.slice B d.length C) d.length (G5 d))
 (R:Option Addr) (S:Nat) (c:List (bZ×Int)) (hw:w.ownsRow 0 131 2 (.slice R c.length S) c.length (G5 c)) (G H:Nat)
 (W:∀p∈d,0<=p.2/\p.2<T.length/\∀q∈c,p.2+q.2+1<=m) (X:∀q∈c,0<=q.2/\q.2<T.length) (Y:Box w H (pV b) 41) (hq:Box w G (.slice B d.length C) 74):
 Calls prog 114 #[.slice R c.length S,.func (.func 204) #[] #[pV G,pV H]] w λe w'=>
  (∃r:Int,e= .returned (.int .i64 r)/\decide (0<=r)=c.any λp=> !S5 T d p)/\Mid w a N T D m w':=by
 have g:=O h;have HO:=O Z;have HW:=O hw;have a3:=O Y;have a4:=O hq;have y:=O W;have HJ:=O X;clear h Z hw Y hq W X;go_enter func114,ntmps114;go_wp2;go_loopw [8] (λv wr=>∃j:Nat,j<=c.length/\v= .int .i64 (j:Int)/\Hid ((c.take j).any (λp=> !S5 T d p)=false)/\Hid (Mid w a N T D m wr)) (λv _=>c.length - (intOf v).toNat)
 case atStart=>exact⟨0,wQ _,rfl,by simp[Hid],Mid.refl g.o m⟩
 case round=>
  obtain⟨j,hj,rfl,u,f⟩:=hrel;by_cases E:j<c.length
  · obtain⟨ab,rfl,hg,ac,a7,y0,y1⟩:=Y5 (Y3 HW.o g.o.mst f.o.chg) E;have n:=mQ E;have s:=HJ.o _ n;have F:=λp l=>(y.o p l).2.2 _ n;have P:=O (G2a (p:=λp=> !S5 T d p) E);have L:=O n;clear n;generalize c[j]=e0 at *;obtain⟨t,yy⟩:=e0;simp only at y0 y1 s F;obtain⟨z,rfl⟩:∃z:Nat,yy=(z:Int):=⟨yy.toNat,by omega⟩;obtain⟨D1,a2,V⟩:=f.o.shp g.o;have i:=Z0c m IH wr D1 a2 B C d (Y3 HO.o g.o.mst f.o.chg) t z G H (by omega) (λp l=>⟨(y.o p l).1,(y.o p l).2.1,by have:=F p l;omega⟩) (f.o.box g.o.mst a3.o) (f.o.box g.o.mst a4.o);have K:=O V;unfold maxLen at a7;clear s a2 V F;have M:Hid (∀r,r=(!S5 T d (t,(z:Int)))->(∃x∈c,(!S5 T d x)=true)\/r=false):=by
     intro r o;cases r
     · exact .inr rfl
     · exact .inl ⟨_,L.o,o.symm⟩
    generalize o:(!S5 T d (t,(z:Int)))=r at P i;have a5:=O (M.o r o.symm);clear o M L;generalize s:(⟨t.toArray⟩:ByteArray)=bx at *;clear s;cases r
    · go_wp2_with fail
      refine i.mono ?_;clear i;rintro e aa ⟨rfl,k⟩;have A:=O (f.o.trans K.o k);clear k;go_wp2;go_roundw
      case rel=>exact⟨j+1,by omega,by go_num,by show _=_;rw[P.o,u.o];rfl,A.o⟩
      case measure=>simp[intOf];omega
    · go_wp2_with fail
      refine i.mono ?_;clear i;rintro e aa ⟨rfl,k⟩;have A:=O (f.o.trans K.o k);clear k;go_wp2;go_ret;refine⟨⟨_,rfl, ?_⟩,A.o⟩;rcases a5.o with ⟨x,a8,a9⟩|h0
      · rw[List.any_eq_true.2 ⟨x,a8,a9⟩];simp
      · cases h0
  · have a6:j=c.length:=by omega
    subst a6;rw[xZ]at u;go_wp2;go_ret;exact⟨⟨_,rfl,by rw[u.o];simp⟩,f.o⟩
theorem G0b(m:Nat)(y:P2a b a N T m)(w:lZ)(D:Dt)(h:Shp w b a N T D)(f:Option Addr)(g:Nat)(d:List (bZ×Int))(u:w.ownsRow 0 131 2 (.slice f d.length g) d.length (G5 d))
 (i:Option Addr) (j:Nat) (c:List (bZ×Int)) (x:w.ownsRow 0 131 2 (.slice i c.length j) c.length (G5 c)) (l n:Nat)
 (o:∀p∈d,0<=p.2/\p.2<T.length/\∀q∈c,p.2+q.2+1<=m) (s:∀q∈c,0<=q.2/\q.2<T.length) (t:Box w n (pV b) 41) (v:Box w l (.slice f d.length g) 74):
 Calls prog 203 #[.slice i c.length j,.func (.func 204) #[] #[pV l,pV n]] w λe A=>
  e= .returned (.bool (c.any λp=> !S5 T d p))/\Mid w a N T D m A:=by
 have H:=C7c m y w D h f g d u i j c x l n o s t v;clear h u x t v o s;generalize (c.any λp=> !S5 T d p)=r at *;go_enter func203,ntmps203;go_wp2_with fail
 refine H.mono ?_;clear H;rintro e C ⟨⟨k,rfl,B⟩,z⟩;go_wp2;all_goals go_ret
 all_goals exact⟨F8 (by simp_all),z⟩
theorem K0a{c:Type}(p:c->Bool):∀l:List c,(!l.any λx=> !p x)=l.all p
 |[]=>rfl
 |d::l=>by
  rw[List.any_cons,List.all_cons,<-K0a p l];cases p d<;>simp
theorem A9b(m:Nat)(y:P2a b a N T m)(w:lZ)(D:Dt)(h:Shp w b a N T D)(f:Option Addr)(g:Nat)(c:List (bZ×Int))(t:w.ownsRow 0 131 2 (.slice f c.length g) c.length (G5 c))
 (j:Option Addr) (k:Nat) (d:List (bZ×Int)) (u:w.ownsRow 0 131 2 (.slice j d.length k) d.length (G5 d))
 (n:∀p∈c,0<=p.2/\p.2<T.length/\∀q∈d,p.2+q.2+1<=m) (o:∀q∈d,0<=q.2/\q.2<T.length):
 Calls prog 191 #[pV b,.slice f c.length g,.slice j d.length k] w λe A=>
  e= .returned (.bool (d.all λp=>S5 T c p))/\Mid w a N T D m A:=by
 have B:=mkf;have l:=L6c w (pV b) 41;have i:=L6c (w.alloc (.cells #[pV b] 41)) (.slice f c.length g) 74;simp only[World.size_alloc]at i;have H:=G0b m y _ D ((h.alloc (.cells #[pV b] 41)).alloc (.cells #[.slice f c.length g] 74)) f g c ((t.alloc _).alloc _) j k d ((u.alloc _).alloc _) (w.heap.size+1) w.heap.size n o (l.alloc _) i;have v:=O (((Mid.refl h m).alloc (.cells #[pV b] 41)).alloc (.cells #[.slice f c.length g] 74));have x:=O (K0a (λp=>S5 T c p) d);clear h t u n o l i;generalize (d.all λp=>S5 T c p)=r at *;generalize (d.any λp=> !S5 T c p)=C at *;go_enter func191,ntmps191;go_wp2_with fail
 refine H.mono ?_;clear H;rintro e E ⟨rfl,s⟩;have z:=O (v.o.trans (λ_ _ _ _ _=>rfl) s);clear s;go_wp2;go_ret;exact⟨F8 x.o,z.o⟩
end
set_option linter.unusedSimpArgs false
section
variable{b a N:Nat}{T:List Ty}
def N0a(T:List Ty)(p:Int×Int):Bool:=F2 (tr T p.1.toNat) (tr T p.2.toNat)||F2 (tr T p.2.toNat) (tr T p.1.toNat)
theorem G3b{c:Type}{p:c->Bool}{l:List c}{j:Nat}(d:j<l.length):(l.take (j+1)).all p=((l.take j).all p && p l[j]):=by
 rw[nQ d,List.all_append];simp
theorem X2d{w d c:lZ}{D:Dt}{m:Nat}{p1 p2:Nat×Nat}{f g:Value}(e:I (λk=>k=a) d c)(i:Mid w a N T D m c)(h:d.cell? (J p1.1 p1.2)=some f/\d.cell? (J p2.1 p2.2)=some g/\Hid (Mid w a N T D m d)):
 c.cell? (J p1.1 p1.2)=some f/\c.cell? (J p2.1 p2.2)=some g/\Hid (Mid w a N T D m c):=
 ⟨I6 h.2.2.o e h.1,I6 h.2.2.o e h.2.1,i⟩
theorem F0b(m:Nat)(R:P2a b a N T m)(w:lZ)(D:Dt)(h:Shp w b a N T D)(S:Option Addr)(C:Nat)(c:uZ)(ho:w.ownsRow 0 3 1 (.slice S c.length C) c.length (C8 c))
 (V:Option Addr) (E:Nat) (d:uZ) (hp:w.ownsRow 0 3 1 (.slice V d.length E) d.length (C8 d)) (Y:∀x∈c,0<=x/\x<T.length/\∀y∈d,x+y+1<=m) (Z:∀y∈d,0<=y/\y<T.length):
 Calls prog 206 #[pV b,.slice S c.length C,.slice V d.length E] w λe f=>
  e= .returned (.bool (decide (c.length<=d.length) && (c.zip d).all (N0a T)))/\Mid w a N T D m f:=by
 have i:=O h;have HO:=O ho;have HP:=O hp;have HI:=O Y;have HJ:=O Z;clear h ho hp Y Z;by_cases ab:c.length<=d.length
 · have o:decide (c.length<=d.length)=true:=by simp[ab]
   have a6:decide (d.length<c.length)=false:=by simp;omega
   have a3:(c.zip d).length=c.length:=by simp;omega
   have A:=O a3;rw[o,Bool.true_and];clear o a3;go_enter func206,ntmps206;go_wp2;go_loopw [15] (λv wr=>∃j:Nat,j<=c.length/\v= .int .i64 (j:Int)/\Hid (((c.zip d).take j).all (N0a T)=true)/\Hid (Mid w a N T D m wr)) (λv _=>c.length - (intOf v).toNat)
   case atStart=>exact⟨0,wQ _,rfl,by simp[Hid],Mid.refl i.o m⟩
   case round=>
    obtain⟨j,hj,rfl,s,g⟩:=hrel;by_cases a2:j<c.length
    · have H:j<d.length:=by omega
      obtain⟨l,rfl,ai,ak,a8,L⟩:=D9 (Y3 HO.o i.o.mst g.o.chg) a2;obtain⟨n,rfl,aj,al,a9,M⟩:=D9 (Y3 HP.o i.o.mst g.o.chg) H;have hx:=HI.o c[j] (mQ a2);have hy:=HJ.o d[j] (mQ H);have ag:=hx.2.2 d[j] (mQ H);have z:=O (G3b (p:=N0a T) (l:=c.zip d) (j:=j) (by have:=A.o;omega));have HN:Hid (∀r,r=false->r=N0a T (c[j],d[j])->(c.zip d).all (N0a T)=false):=by
       intro r ad ae;rw[List.all_eq_false];refine⟨(c[j],d[j]), ?_,by rw[<-ae,ad];simp⟩;have e:(c.zip d)[j]'(by have:=A.o;omega)=(c[j],d[j]):=by simp
       rw[<-e];exact mQ _
      rw[List.getElem_zip]at z;generalize c[j]=xi at *;generalize d[j]=yi at *;obtain⟨x,rfl⟩:∃x:Nat,xi=(x:Int):=⟨xi.toNat,by omega⟩;obtain⟨y,rfl⟩:∃y:Nat,yi=(y:Int):=⟨yi.toNat,by omega⟩;have u:Hid (N0a T ((x:Int),(y:Int))=(F2 (tr T x) (tr T y)||F2 (tr T y) (tr T x))):=rfl;have P:∀(p q:Nat) (r:Bool),(p=x/\q=y/\r=F2 (tr T x) (tr T y))\/(p=y/\q=x/\r=F2 (tr T y) (tr T x))->∀k,Mid w a N T D m k->
       Calls prog 160 #[pV b,.int .i64 (p:Int),.int .i64 (q:Int)] k λe f=>e= .returned (.bool r)/\I (λah=>ah=a) k f/\Mid w a N T D m f:=by
       rintro p q r (⟨rfl,rfl,rfl⟩|⟨rfl,rfl,rfl⟩) k X
       · exact K8a R i.o (by omega) (by omega) (by omega) k X
       · exact K8a R i.o (by omega) (by omega) (by omega) k X
      generalize F2 (tr T x) (tr T y)=r1 at *;generalize F2 (tr T y) (tr T x)=r2 at *;generalize N0a T ((x:Int),(y:Int))=r3 at *;unfold maxLen at a8 a9;clear hx hy ag;cases r1
      · go_wp2_with fail
        go_region_held3 (λf=>f.cell? (J l j)=some (.int .i64 (x:Int))/\f.cell? (J n j)=some (.int .i64 (y:Int))/\Hid (Mid w a N T D m f))
         (first
          |exact⟨L,M,g.o.drewN 1⟩
          |exact X2d (p1:=(l,j)) (p2:=(n,j)) G K ⟨by assumption,by assumption,by assumption⟩
          |(go_split_ands;exact⟨by assumption,by assumption,by assumption⟩))
         (first
          |((go_at_call 160;go_split_ands;refine(P _ _ _ (by first|exact .inl ⟨rfl,rfl,rfl⟩|exact .inr ⟨rfl,rfl,rfl⟩) _ (Hid.o (by assumption))).mono ?_;rintro e f ⟨rfl,G,K⟩)))
        have t:Hid (Mid w a N T D m f):=by assumption
        cases r2
        · go_wp2;go_ret;exact⟨F8 (HN.o r3 (by rw[u.o];rfl) rfl).symm,t.o⟩
        · go_wp2;go_roundw
          case rel=>exact⟨j+1,by omega,by go_num,by show _=_;rw[z.o,s.o,u.o];rfl,t.o⟩
          case measure=>simp[intOf];omega
      · go_wp2_with fail
        refine wp_region_held_drew (S:=λf=>f.cell? (J l j)=some (.int .i64 (x:Int))/\f.cell? (J n j)=some (.int .i64 (y:Int))/\Hid (Mid w a N T D m f)) (by kernel_rfl) ⟨L,M,g.o.drewN 1⟩ (λa5=> ?_);refine tA (i:=0) (k:=18) (v:=pV b) rfl ?_;simp only[Act.put,aT,a0,a1];refine tA (i:=1) (k:=19) (v:= .slice (some (J l 0)) c.length C) rfl ?_;simp only[Act.put,aT,a0,a1];refine tA (i:=2) (k:=20) (v:= .int .i64 (j:Int)) rfl ?_;simp only[Act.put,aT,a0,a1];refine tA (i:=3) (k:=21) (v:= .pointer (some (J l j))) rfl ?_;simp only[Act.put,aT,a0,a1];refine tA (i:=4) (k:=22) (v:= .int .i64 (x:Int)) rfl ?_ (hy:= .inl ⟨by rfl,λw F=>by obtain⟨h1,h2,h3⟩:=F;go_simp⟩);simp only[Act.put,aT,a0,a1];refine tA (i:=5) (k:=23) (v:= .slice (some (J n 0)) d.length E) rfl ?_;simp only[Act.put,aT,a0,a1];refine tA (i:=6) (k:=24) (v:= .int .i64 (j:Int)) rfl ?_;simp only[Act.put,aT,a0,a1];refine tA (i:=7) (k:=25) (v:= .pointer (some (J n j))) rfl ?_;simp only[Act.put,aT,a0,a1];refine tA (i:=8) (k:=26) (v:= .int .i64 (y:Int)) rfl ?_ (hy:= .inl ⟨by rfl,λw F=>by obtain⟨h1,h2,h3⟩:=F;go_simp⟩);simp only[Act.put,aT,a0,a1];refine wpAnyH_ready (rs:=[9]) (by kernel_rfl) (by simp) ?_;refine AllReadyH.cons (o:=Oper.mk (some 27) _ _ _ _ _) rfl (λa4 W=> ?_) AllReadyH.nil;go_simp
        refine(P x y true (.inl ⟨rfl,rfl,rfl⟩) _ (g.o.drewN 1)).mono ?_;rintro e f ⟨rfl,G,K⟩;have B:=X2d (p1:=(l,j)) (p2:=(n,j)) G K ⟨L,M,g.o.drewN 1⟩;refine W _ _ B (λ_=> ?_);clear W a4 a5;refine tA (i:=10) (k:=28) (v:= .bool false) rfl ?_;simp only[Act.put,aT,a0,a1];refine tA (i:=11) (k:=29) (v:= .bool false) rfl ?_;simp only[Act.put,aT,a0,a1];refine tU (i:=12) (k:=30) rfl ?_;simp only[Act.put,aT,a0,a1];refine tU (i:=13) (k:=31) rfl ?_;simp only[Act.put,aT,a0,a1];refine tU (i:=14) (k:=32) rfl ?_;simp only[Act.put,aT,a0,a1];refine tU (i:=15) (k:=33) rfl ?_;simp only[Act.put,aT,a0,a1];refine tU (i:=16) (k:=34) rfl ?_;simp only[Act.put,aT,a0,a1];refine tU (i:=17) (k:=35) rfl ?_;simp only[Act.put,aT,a0,a1];refine tU (i:=18) (k:=36) rfl ?_;simp only[Act.put,aT,a0,a1];refine tU (i:=19) (k:=37) rfl ?_;simp only[Act.put,aT,a0,a1];refine tU (i:=20) (k:=38) rfl ?_;simp only[Act.put,aT,a0,a1];refine tU (i:=21) (k:=39) rfl ?_;simp only[Act.put,aT,a0,a1];refine tU (i:=22) (k:=40) rfl ?_;simp only[Act.put,aT,a0,a1];refine tA (i:=23) (k:=41) (v:= .bool false) rfl ?_;simp only[Act.put,aT,a0,a1];refine wpAnyH_done (by kernel_rfl) ?_ _;have t:=B.2.2;clear B;go_wp2;go_roundw
        case rel=>exact⟨j+1,by omega,by go_num,by show _=_;rw[z.o,s.o,u.o];rfl,t.o⟩
        case measure=>simp[intOf];omega
    · have a7:j=c.length:=by omega
      subst a7;have af:(c.zip d).take c.length=c.zip d:=List.take_of_length_le (by have:=A.o;omega);rw[af]at s;go_wp2;go_ret;exact⟨F8 s.o.symm,g.o⟩
 · have o:decide (c.length<=d.length)=false:=by simp;omega
   have a6:decide (d.length<c.length)=true:=by simp;omega
   rw[o,Bool.false_and];have HM:=O (Mid.refl i.o m);clear o;go_enter func206,ntmps206;go_wp2;all_goals go_ret
   all_goals exact⟨rfl,HM.o⟩
end
theorem Tryz.zeroInt(w:lZ):(zeroValue 3).run prog w= .ok (.int .i64 0) w:=by kernel_rfl
section
variable{lb mb N:Nat}{T:List Ty}
theorem W9a{e d:Type}(f:e->d)(p:d×d->Bool):∀(l c:List e),((l.map f).zip (c.map f)).all p=(l.zip c).all λx=>p (f x.1,f x.2)
 |[],_=>by simp
 |_::_,[]=>by simp
 |a::l,b::c=>by simp only[uY,List.zip_cons_cons,List.all_cons,W9a f p l c]
theorem D9c{a b:Nat}(c:TsOk T)(d:a<T.length)(e:b<T.length)(j:T[a].kind=9)(k:T[b].kind=9):
 F2 (tr T a) (tr T b)=((decide (T[a].list.length<=T[b].list.length) && (T[a].list.zip T[b].list).all (N0a T)) && F2 (tr T T[a].of'.toNat) (tr T T[b].of'.toNat)):=by
 have f:∀i (g:i<T.length),T[i].kind=9->T[i].fields=[]:=by
  intro i g l;rcases c i g with h|h|h|h|h
  · omega
  · omega
  · omega
  · exact h.2.1
  · omega
 rw[Y0 c d,Y0 c e,j,k,f a d j,f b e k];rw[rY (.inr rfl),rY (.inr rfl)];simp only[List.map_nil,zY,List.singleton_append];rw[T3d];simp only[iZ];rw[W9a];rfl
theorem X1d{w a b:lZ}{D:Dt}{m:Nat}{p1 p2 p3 p4 p5:Nat×Nat}{d e f g i:Value}(c:I (λk=>k=mb) a b)(j:Mid w mb N T D m b)
 (h:a.cell? (J p1.1 p1.2)=some d/\a.cell? (J p2.1 p2.2)=some e/\a.cell? (J p3.1 p3.2)=some f/\a.cell? (J p4.1 p4.2)=some g/\a.cell? (J p5.1 p5.2)=some i/\Hid (Mid w mb N T D m a)):
 b.cell? (J p1.1 p1.2)=some d/\b.cell? (J p2.1 p2.2)=some e/\b.cell? (J p3.1 p3.2)=some f/\b.cell? (J p4.1 p4.2)=some g/\b.cell? (J p5.1 p5.2)=some i/\Hid (Mid w mb N T D m b):=
 ⟨I6 h.2.2.2.2.2.o c h.1,I6 h.2.2.2.2.2.o c h.2.1,I6 h.2.2.2.2.2.o c h.2.2.1,I6 h.2.2.2.2.2.o c h.2.2.2.1,I6 h.2.2.2.2.2.o c h.2.2.2.2.1,j⟩
theorem look{w:lZ}{D:Dt}{a b:Nat}{c:Int}(d:Mst w mb N T D)(p:a<T.length)(q:b<T.length)(h:at2 D a b= .lit (.int .i64 c))(n:Nat):
 (Instr.lookup 100 (.map (some mb)) (.agg #[.int .i64 (a:Int),.int .i64 (b:Int)]) false).run prog (w.drewN n)= .ok (.int .i64 c) (w.drewN n):=by
 have m:=d.len;have o:=d.few;obtain⟨k,i,_⟩:=d.own;have j:(w.drewN n).ownsMap prog 205 (plainElem prog 3) mb k D:=i;obtain⟨f,l,g,_⟩:=j.lookup_int Y0a underlying100 underlying3 (Tryz.zeroInt _) (E4a a b (U4 a (by omega)) (U4 b (by omega)));have e:at2 D a b= .lit (.int .i64 f):=g;rw[h]at e;simp only[DataW.lit.injEq,Lit.int.injEq,true_and]at e;rw[e];exact l
theorem P7c{w:lZ}{D:Dt}{a b:Nat}(d:Mst w mb N T D)(j:a<T.length)(l:b<T.length):∃c,at2 D a b= .lit (.int .i64 c):=by
 have h:=d.len;have i:=d.few;obtain⟨k,g,_⟩:=d.own;obtain⟨e,m,f,_⟩:=g.lookup_int Y0a underlying100 underlying3 (Tryz.zeroInt _) (E4a a b (U4 a (by omega)) (U4 b (by omega)));exact⟨e,f⟩
theorem tell{w j d:lZ}{D:Dt}{m a b:Nat}(l:I No w j)(h:Mid j mb N T D m d)(s:a<T.length)(t:b<T.length)(K:at2 D a b= .lit (.int .i64 0))(v:m<=a+b)(r:Bool)(F:F2 (tr T a) (tr T b)=r):
 ∃e,(Instr.mapUpdate 100 (.map (some mb)) (.agg #[.int .i64 (a:Int),.int .i64 (b:Int)]) (.int .i64 (if r then 1 else 2))).run prog d.drew= .ok () e/\M8a w mb N T D (a+b) r (.returned (.bool r)) e:=by
 obtain⟨f,c,i⟩:=h.memo;have M:=c.len;have g:=c.few;obtain⟨n,z,y⟩:=c.own;have A:d.drew.ownsMap prog 205 (plainElem prog 3) mb n f:=z;have P:N * N<=4000 * 4000:=Nat.mul_le_mul g g;have H:(Lit.int .i64 (if r then 1 else 2)).wf=true:=by cases r<;>decide
 obtain⟨e,G,B,u⟩:=A.update Y0a underlying100 (by unfold maxLen;omega) (E4a a b (U4 a (by omega)) (U4 b (by omega))) (plainElem_int underlying3 H);have L:at2 f a b= .lit (.int .i64 0):=by rw[i a b (by omega) (by omega) v];exact K
 have o:=c.put s t (by rw[C3e L];rfl) r F y B;refine⟨e,G,rfl, ?_,_,o,λp q C E R=> ?_⟩
 · exact((l.mono λ_ _ x=>x.elim).trans h.chg (λ_ _ x=>x)).trans ((I.drewN (λk=>k=mb) d 1).trans (I.grown u) (λk _ x=>by simpa using x)) (λ_ _ x=>x)
 · rw[V0a (by omega) (by omega) (by omega) (by omega) _ (by omega)];exact i p q C E (by omega)
theorem U6a(m:Nat)(IH:P2a lb mb N T m)(w:lZ)(D:Dt)(h:Shp w lb mb N T D)(a b:Nat)(r:a<T.length)(s:b<T.length)(hm:a+b=m)(ka:T[a].kind=9)(kb:T[b].kind=9):
 Calls prog 192 #[pV lb,.int .i64 (a:Int),.int .i64 (b:Int)] w (M8a w mb N T D (a+b) (F2 (tr T a) (tr T b))):=by
 have hT:=h.ok;have b6:=h.few;obtain⟨k,K⟩:=P7c h.mst r s;have i:=h.alloc (.cells #[.int .i64 (a:Int),.int .i64 (b:Int)] 205);have HL:=look i.mst r s K;have ae:=h.mst.memo a b k (yQ r h.mst.len) (yQ s h.mst.len) K;have C0:=O (I.alloc No w (.cells #[.int .i64 (a:Int),.int .i64 (b:Int)] 205));obtain⟨ad,c,af,aq,ai,fz,W⟩:=h.cell;have j:=O (Mid.refl i m);have A:=O i;have HF:=O (D9c hT r s ka kb);have V:=O (λao (q:Mid (w.alloc (.cells #[.int .i64 (a:Int),.int .i64 (b:Int)] 205)) mb N T D m ao) (hz:k=0) b0 hr=>tell C0.o q r s (hz ▸ K) (by omega) b0 hr);have HD:Hid (at2 D a b= .lit (.int .i64 k)):=K;have b2:=O h.mst;clear K i hT;by_cases ab:k=0
 · subst ab;clear ae;have F:=h.ok;obtain⟨g,fa,fc,P,C,rfl,hg,b5,au,-,-,x2,x3,-,al⟩:=W a r;obtain⟨g',fb,b1,S,E,ah,-,-,-,-,-,z2,z3,-,am⟩:=W b s;simp only[zQ,Addr.mk.injEq,and_true]at ah;subst ah;have X:=(F a r).lst;have Y:=(F b s).lst;have aw:=(F a r).of (.inr ka);have ax:=(F b s).of (.inr kb);have O1:=O (al.alloc (.cells #[.int .i64 (a:Int),.int .i64 (b:Int)] 205));have O2:=O (am.alloc (.cells #[.int .i64 (a:Int),.int .i64 (b:Int)] 205));clear W al am h F;generalize T[a].list=n at *;generalize T[b].list=o at *;generalize T[a].of'=oi at *;generalize T[b].of'=pi at *;obtain⟨ox,rfl⟩:∃x:Nat,oi=(x:Int):=⟨oi.toNat,by omega⟩;obtain⟨oy,rfl⟩:∃x:Nat,pi=(x:Int):=⟨pi.toNat,by omega⟩;have G:∀{ak an},w.cell? (J g ak)=some an->(w.alloc (.cells #[.int .i64 (a:Int),.int .i64 (b:Int)] 205)).cell? (J g ak)=some an:=λM=>I5 hg M;have a0:(w.alloc (.cells #[.int .i64 (a:Int),.int .i64 (b:Int)] 205)).cell? (J lb 0)=some (.slice (some (J g 0)) T.length c):=I5 ai af;have a1:=G x2;have a2:=G z2;have a3:=G x3;have a4:=G z3;have a5:(w.alloc (.cells #[.int .i64 (a:Int),.int .i64 (b:Int)] 205)).cell? (J lb 1)=some (.map (some mb)):=I5 ai aq;have a6:(w.alloc (.cells #[.int .i64 (a:Int),.int .i64 (b:Int)] 205)).cell? (J w.heap.size 0)=some (.int .i64 (a:Int)):=by rw[World.cell?_alloc_new];rfl
   have a7:(w.alloc (.cells #[.int .i64 (a:Int),.int .i64 (b:Int)] 205)).cell? (J w.heap.size 1)=some (.int .i64 (b:Int)):=by rw[World.cell?_alloc_new];rfl
   have A5:=O a5;have A6:=O a6;have A7:=O a7;have PF:∀v,Mid (w.alloc (.cells #[.int .i64 (a:Int),.int .i64 (b:Int)] 205)) mb N T D m v->Calls prog 206 #[pV lb,.slice P n.length C,.slice S o.length E] v λe d=>
    e= .returned (.bool (decide (n.length<=o.length) && (n.zip o).all (N0a T)))/\I (λk=>k=mb) v d/\Mid (w.alloc (.cells #[.int .i64 (a:Int),.int .i64 (b:Int)] 205)) mb N T D m d:=by
    intro v q;obtain⟨D1,ay,av⟩:=q.shp A.o;refine(F0b m IH v D1 ay P C n (Y3 O1.o A.o.mst q.chg) S E o (Y3 O2.o A.o.mst q.chg) (λx M=>⟨(X x M).1,by have:=(X x M).2;omega,λa9 Z=>by have:=X x M;have:=Y a9 Z;omega⟩) (λa9 Z=>⟨(Y a9 Z).1,by have:=(Y a9 Z).2;omega⟩)).mono ?_;rintro e ao ⟨he,ag⟩;exact⟨he,ag.chg,q.trans av ag⟩
   have FM:=λv (q:Mid (w.alloc (.cells #[.int .i64 (a:Int),.int .i64 (b:Int)] 205)) mb N T D m v)=>K8a IH A.o (a:=ox) (b:=oy) (by omega) (by omega) (by omega) v q;have aa:=HF.o;simp only[tQ]at aa;generalize (decide (n.length<=o.length) && (n.zip o).all (N0a T))=r1 at *;generalize F2 (tr T ox) (tr T oy)=r2 at *;generalize F2 (tr T a) (tr T b)=R at *;have p:=O aa;unfold maxLen at au;clear aa HF X Y aw ax x2 x3 z2 z3 G af a5 a6 a7 hm;have b3:(a:Int)<(T.length:Int):=by omega
   have b4:(b:Int)<(T.length:Int):=by omega
   cases r1
   · go_enter func192,ntmps192;go_wp2_with fail
     go_quiet (fail)
     go_wp2_with fail
     refine wp_region_held_drew (S:=(λd=>d.cell? (J lb 0)=some (.slice (some (J g 0)) T.length c)/\d.cell? (J g (a * 4+2))=some (.slice P n.length C)/\d.cell? (J g (b * 4+2))=some (.slice S o.length E)/\d.cell? (J g (a * 4+3))=some (.int .i64 (ox:Int))/\d.cell? (J g (b * 4+3))=some (.int .i64 (oy:Int))/\Hid (Mid (w.alloc (.cells #[.int .i64 (a:Int),.int .i64 (b:Int)] 205)) mb N T D m d))) (by kernel_rfl) ⟨a0,a1,a2,a3,a4,(j.o.drewN nq).drewN 1⟩ (λar=> ?_);refine wpAnyH_take (i:=0) (oi:=Oper.mk (some 20) _ _ _ _ _) (v:=pV lb) rfl (by kernel_rfl) (by kernel_rfl) (by kernel_rfl) (λ_ _ _ h=>h) (Or.inl ⟨by rfl,λw f=>by go_simp⟩) (by assumption) ?_;simp only[Act.put,yZ,zZ,wZ];refine wpAnyH_take (i:=1) (oi:=Oper.mk (some 21) _ _ _ _ _) (v:=pV lb) rfl (by kernel_rfl) (by kernel_rfl) (by kernel_rfl) (λ_ _ _ h=>h) (Or.inl ⟨by rfl,λw f=>by go_simp⟩) (by assumption) ?_;simp only[Act.put,yZ,zZ,wZ];refine wpAnyH_take (i:=2) (oi:=Oper.mk (some 22) _ _ _ _ _) (v:=pV lb) rfl (by kernel_rfl) (by kernel_rfl) (by kernel_rfl) (λ_ _ _ h=>h) (Or.inl ⟨by rfl,λw f=>by go_simp⟩) (by assumption) ?_;simp only[Act.put,yZ,zZ,wZ];refine wpAnyH_take (i:=3) (oi:=Oper.mk (some 23) _ _ _ _ _) (v:=pV lb) rfl (by kernel_rfl) (by kernel_rfl) (by kernel_rfl) (λ_ _ _ h=>h) (Or.inl ⟨by rfl,λw f=>by go_simp⟩) (by assumption) ?_;simp only[Act.put,yZ,zZ,wZ];refine wpAnyH_take (i:=4) (oi:=Oper.mk (some 24) _ _ _ _ _) (v:= .slice (some (J g 0)) T.length c) rfl (by kernel_rfl) (by kernel_rfl) (by kernel_rfl) (λ_ _ _ h=>h) (Or.inl ⟨by rfl,λw f=>by obtain⟨i,z,h3,h4,h5,h6⟩:=f;go_simp⟩) (by assumption) ?_;simp only[Act.put,yZ,zZ,wZ];refine wpAnyH_take (i:=5) (oi:=Oper.mk (some 25) _ _ _ _ _) (v:= .int .i64 (a:Int)) rfl (by kernel_rfl) (by kernel_rfl) (by kernel_rfl) (λ_ _ _ h=>h) (Or.inl ⟨by rfl,λw f=>by go_simp⟩) (by assumption) ?_;simp only[Act.put,yZ,zZ,wZ];refine wpAnyH_take (i:=6) (oi:=Oper.mk (some 26) _ _ _ _ _) (v:= .pointer (some (J g (a * 4)))) rfl (by kernel_rfl) (by kernel_rfl) (by kernel_rfl) (λ_ _ _ h=>h) (Or.inl ⟨by rfl,λw f=>by go_simp⟩) (by assumption) ?_;simp only[Act.put,yZ,zZ,wZ];refine wpAnyH_take (i:=7) (oi:=Oper.mk (some 27) _ _ _ _ _) (v:= .pointer (some (J g (a * 4+2)))) rfl (by kernel_rfl) (by kernel_rfl) (by kernel_rfl) (λ_ _ _ h=>h) (Or.inl ⟨by rfl,λw f=>by go_simp⟩) (by assumption) ?_;simp only[Act.put,yZ,zZ,wZ]
     refine wpAnyH_take (i:=8) (oi:=Oper.mk (some 28) _ _ _ _ _) (v:= .slice P n.length C) rfl (by kernel_rfl) (by kernel_rfl) (by kernel_rfl) (λ_ _ _ h=>h) (Or.inl ⟨by rfl,λw f=>by obtain⟨i,z,h3,h4,h5,h6⟩:=f;go_simp⟩) (by assumption) ?_;simp only[Act.put,yZ,zZ,wZ];refine wpAnyH_take (i:=9) (oi:=Oper.mk (some 29) _ _ _ _ _) (v:=pV lb) rfl (by kernel_rfl) (by kernel_rfl) (by kernel_rfl) (λ_ _ _ h=>h) (Or.inl ⟨by rfl,λw f=>by go_simp⟩) (by assumption) ?_;simp only[Act.put,yZ,zZ,wZ];refine wpAnyH_take (i:=10) (oi:=Oper.mk (some 30) _ _ _ _ _) (v:=pV lb) rfl (by kernel_rfl) (by kernel_rfl) (by kernel_rfl) (λ_ _ _ h=>h) (Or.inl ⟨by rfl,λw f=>by go_simp⟩) (by assumption) ?_;simp only[Act.put,yZ,zZ,wZ];refine wpAnyH_take (i:=11) (oi:=Oper.mk (some 31) _ _ _ _ _) (v:=pV lb) rfl (by kernel_rfl) (by kernel_rfl) (by kernel_rfl) (λ_ _ _ h=>h) (Or.inl ⟨by rfl,λw f=>by go_simp⟩) (by assumption) ?_;simp only[Act.put,yZ,zZ,wZ];refine wpAnyH_take (i:=12) (oi:=Oper.mk (some 32) _ _ _ _ _) (v:= .slice (some (J g 0)) T.length c) rfl (by kernel_rfl) (by kernel_rfl) (by kernel_rfl) (λ_ _ _ h=>h) (Or.inl ⟨by rfl,λw f=>by obtain⟨i,z,h3,h4,h5,h6⟩:=f;go_simp⟩) (by assumption) ?_;simp only[Act.put,yZ,zZ,wZ];refine wpAnyH_take (i:=13) (oi:=Oper.mk (some 33) _ _ _ _ _) (v:= .int .i64 (b:Int)) rfl (by kernel_rfl) (by kernel_rfl) (by kernel_rfl) (λ_ _ _ h=>h) (Or.inl ⟨by rfl,λw f=>by go_simp⟩) (by assumption) ?_;simp only[Act.put,yZ,zZ,wZ];refine wpAnyH_take (i:=14) (oi:=Oper.mk (some 34) _ _ _ _ _) (v:= .pointer (some (J g (b * 4)))) rfl (by kernel_rfl) (by kernel_rfl) (by kernel_rfl) (λ_ _ _ h=>h) (Or.inl ⟨by rfl,λw f=>by go_simp⟩) (by assumption) ?_;simp only[Act.put,yZ,zZ,wZ];refine wpAnyH_take (i:=15) (oi:=Oper.mk (some 35) _ _ _ _ _) (v:= .pointer (some (J g (b * 4+2)))) rfl (by kernel_rfl) (by kernel_rfl) (by kernel_rfl) (λ_ _ _ h=>h) (Or.inl ⟨by rfl,λw f=>by go_simp⟩) (by assumption) ?_;simp only[Act.put,yZ,zZ,wZ];refine wpAnyH_take (i:=16) (oi:=Oper.mk (some 36) _ _ _ _ _) (v:= .slice S o.length E) rfl (by kernel_rfl) (by kernel_rfl) (by kernel_rfl) (λ_ _ _ h=>h) (Or.inl ⟨by rfl,λw f=>by obtain⟨i,z,h3,h4,h5,h6⟩:=f;go_simp⟩) (by assumption) ?_;simp only[Act.put,yZ,zZ,wZ];refine wpAnyH_ready (rs:=[17]) (by kernel_rfl) (by simp) ?_
     refine AllReadyH.cons (o:=Oper.mk (some 37) _ _ _ _ _) rfl (λap hK=> ?_) AllReadyH.nil;go_simp
     refine(PF _ ((j.o.drewN nq).drewN 1)).mono ?_;rintro e d ⟨rfl,H,L⟩;have S2:=X1d (p1:=(lb,0)) (p2:=(g,a * 4+2)) (p3:=(g,b * 4+2)) (p4:=(g,a * 4+3)) (p5:=(g,b * 4+3)) H L ⟨a0,a1,a2,a3,a4,(j.o.drewN nq).drewN 1⟩;refine hK _ _ S2 (λ_=> ?_);clear hK ap ar;refine wpAnyH_take (i:=18) (oi:=Oper.mk (some 38) _ _ _ _ _) (v:= .bool false) rfl (by kernel_rfl) (by kernel_rfl) (by kernel_rfl) (λ_ _ _ h=>h) (Or.inl ⟨by rfl,λw f=>by go_simp⟩) (by assumption) ?_;simp only[Act.put,yZ,zZ,wZ];refine wpAnyH_take (i:=19) (oi:=Oper.mk (some 39) _ _ _ _ _) (v:=undef) rfl (by kernel_rfl) (by kernel_rfl) (by kernel_rfl) (λ_ _ _ h=>h) (Or.inr ⟨by rfl,rfl⟩) (by assumption) ?_;simp only[Act.put,yZ,zZ,wZ];refine wpAnyH_take (i:=20) (oi:=Oper.mk (some 40) _ _ _ _ _) (v:=undef) rfl (by kernel_rfl) (by kernel_rfl) (by kernel_rfl) (λ_ _ _ h=>h) (Or.inr ⟨by rfl,rfl⟩) (by assumption) ?_;simp only[Act.put,yZ,zZ,wZ];refine wpAnyH_take (i:=21) (oi:=Oper.mk (some 41) _ _ _ _ _) (v:=undef) rfl (by kernel_rfl) (by kernel_rfl) (by kernel_rfl) (λ_ _ _ h=>h) (Or.inr ⟨by rfl,rfl⟩) (by assumption) ?_;simp only[Act.put,yZ,zZ,wZ];refine wpAnyH_take (i:=22) (oi:=Oper.mk (some 42) _ _ _ _ _) (v:=undef) rfl (by kernel_rfl) (by kernel_rfl) (by kernel_rfl) (λ_ _ _ h=>h) (Or.inr ⟨by rfl,rfl⟩) (by assumption) ?_;simp only[Act.put,yZ,zZ,wZ];refine wpAnyH_take (i:=23) (oi:=Oper.mk (some 43) _ _ _ _ _) (v:=undef) rfl (by kernel_rfl) (by kernel_rfl) (by kernel_rfl) (λ_ _ _ h=>h) (Or.inr ⟨by rfl,rfl⟩) (by assumption) ?_;simp only[Act.put,yZ,zZ,wZ];refine wpAnyH_take (i:=24) (oi:=Oper.mk (some 44) _ _ _ _ _) (v:=undef) rfl (by kernel_rfl) (by kernel_rfl) (by kernel_rfl) (λ_ _ _ h=>h) (Or.inr ⟨by rfl,rfl⟩) (by assumption) ?_;simp only[Act.put,yZ,zZ,wZ];refine wpAnyH_take (i:=25) (oi:=Oper.mk (some 45) _ _ _ _ _) (v:=undef) rfl (by kernel_rfl) (by kernel_rfl) (by kernel_rfl) (λ_ _ _ h=>h) (Or.inr ⟨by rfl,rfl⟩) (by assumption) ?_;simp only[Act.put,yZ,zZ,wZ];refine wpAnyH_take (i:=26) (oi:=Oper.mk (some 46) _ _ _ _ _) (v:=undef) rfl (by kernel_rfl) (by kernel_rfl) (by kernel_rfl) (λ_ _ _ h=>h) (Or.inr ⟨by rfl,rfl⟩) (by assumption) ?_;simp only[Act.put,yZ,zZ,wZ];refine wpAnyH_take (i:=27) (oi:=Oper.mk (some 47) _ _ _ _ _) (v:=undef) rfl (by kernel_rfl) (by kernel_rfl) (by kernel_rfl) (λ_ _ _ h=>h) (Or.inr ⟨by rfl,rfl⟩) (by assumption) ?_
     simp only[Act.put,yZ,zZ,wZ];refine wpAnyH_take (i:=28) (oi:=Oper.mk (some 48) _ _ _ _ _) (v:=undef) rfl (by kernel_rfl) (by kernel_rfl) (by kernel_rfl) (λ_ _ _ h=>h) (Or.inr ⟨by rfl,rfl⟩) (by assumption) ?_;simp only[Act.put,yZ,zZ,wZ];refine wpAnyH_take (i:=29) (oi:=Oper.mk (some 49) _ _ _ _ _) (v:=undef) rfl (by kernel_rfl) (by kernel_rfl) (by kernel_rfl) (λ_ _ _ h=>h) (Or.inr ⟨by rfl,rfl⟩) (by assumption) ?_;simp only[Act.put,yZ,zZ,wZ];refine wpAnyH_take (i:=30) (oi:=Oper.mk (some 50) _ _ _ _ _) (v:=undef) rfl (by kernel_rfl) (by kernel_rfl) (by kernel_rfl) (λ_ _ _ h=>h) (Or.inr ⟨by rfl,rfl⟩) (by assumption) ?_;simp only[Act.put,yZ,zZ,wZ];refine wpAnyH_take (i:=31) (oi:=Oper.mk (some 51) _ _ _ _ _) (v:=undef) rfl (by kernel_rfl) (by kernel_rfl) (by kernel_rfl) (λ_ _ _ h=>h) (Or.inr ⟨by rfl,rfl⟩) (by assumption) ?_;simp only[Act.put,yZ,zZ,wZ];refine wpAnyH_take (i:=32) (oi:=Oper.mk (some 52) _ _ _ _ _) (v:=undef) rfl (by kernel_rfl) (by kernel_rfl) (by kernel_rfl) (λ_ _ _ h=>h) (Or.inr ⟨by rfl,rfl⟩) (by assumption) ?_;simp only[Act.put,yZ,zZ,wZ];refine wpAnyH_take (i:=33) (oi:=Oper.mk (some 53) _ _ _ _ _) (v:=undef) rfl (by kernel_rfl) (by kernel_rfl) (by kernel_rfl) (λ_ _ _ h=>h) (Or.inr ⟨by rfl,rfl⟩) (by assumption) ?_;simp only[Act.put,yZ,zZ,wZ];refine wpAnyH_take (i:=34) (oi:=Oper.mk (some 54) _ _ _ _ _) (v:=undef) rfl (by kernel_rfl) (by kernel_rfl) (by kernel_rfl) (λ_ _ _ h=>h) (Or.inr ⟨by rfl,rfl⟩) (by assumption) ?_;simp only[Act.put,yZ,zZ,wZ];refine wpAnyH_take (i:=35) (oi:=Oper.mk (some 55) _ _ _ _ _) (v:=undef) rfl (by kernel_rfl) (by kernel_rfl) (by kernel_rfl) (λ_ _ _ h=>h) (Or.inr ⟨by rfl,rfl⟩) (by assumption) ?_;simp only[Act.put,yZ,zZ,wZ];refine wpAnyH_take (i:=36) (oi:=Oper.mk (some 56) _ _ _ _ _) (v:=undef) rfl (by kernel_rfl) (by kernel_rfl) (by kernel_rfl) (λ_ _ _ h=>h) (Or.inr ⟨by rfl,rfl⟩) (by assumption) ?_;simp only[Act.put,yZ,zZ,wZ];refine wpAnyH_take (i:=37) (oi:=Oper.mk (some 57) _ _ _ _ _) (v:= .bool false) rfl (by kernel_rfl) (by kernel_rfl) (by kernel_rfl) (λ_ _ _ h=>h) (Or.inl ⟨by rfl,λw f=>by go_simp⟩) (by assumption) ?_;simp only[Act.put,yZ,zZ,wZ];refine wpAnyH_done (by kernel_rfl) ?_ _;have l:=S2.2.2.2.2.2;clear S2 H L;have q5:d.cell? (J lb 1)=some (.map (some mb)):=I6 j.o l.o.chg A5.o
     have q6:d.cell? (J w.heap.size 0)=some (.int .i64 (a:Int)):=I6 j.o l.o.chg A6.o;have q7:d.cell? (J w.heap.size 1)=some (.int .i64 (b:Int)):=I6 j.o l.o.chg A7.o;have az:=World.block_lt_of_cell? d _ q6;obtain⟨y,u,t⟩:=V.o d l.o trivial false (by rw[p.o];rfl);have aj:(Instr.mapUpdate 100 (.map (some mb)) (.agg #[.int .i64 (a:Int),.int .i64 (b:Int)]) (.int .i64 2)).run prog d.drew= .ok () y:=u;have B:Hid (M8a w mb N T D (a+b) R (.returned (.bool false)) y):=by
      show M8a _ _ _ _ _ _ _ _ _;rw[p.o];exact t
     clear u t;go_wp2_with fail
     go_region
     go_wp2;go_ret;exact B.o
   · go_enter func192,ntmps192;go_wp2_with fail
     go_quiet (fail)
     go_wp2_with fail
     go_region_held3 (λd=>d.cell? (J lb 0)=some (.slice (some (J g 0)) T.length c)/\d.cell? (J g (a * 4+2))=some (.slice P n.length C)/\d.cell? (J g (b * 4+2))=some (.slice S o.length E)/\d.cell? (J g (a * 4+3))=some (.int .i64 (ox:Int))/\d.cell? (J g (b * 4+3))=some (.int .i64 (oy:Int))/\Hid (Mid (w.alloc (.cells #[.int .i64 (a:Int),.int .i64 (b:Int)] 205)) mb N T D m d))
      (first
       |exact⟨a0,a1,a2,a3,a4,(j.o.drewN nq).drewN 1⟩
       |exact X1d (p1:=(lb,0)) (p2:=(g,a * 4+2)) (p3:=(g,b * 4+2)) (p4:=(g,a * 4+3)) (p5:=(g,b * 4+3)) H L ⟨by assumption,by assumption,by assumption,by assumption,by assumption,by assumption⟩
       |(go_split_ands;exact⟨by assumption,by assumption,by assumption,by assumption,by assumption,by assumption⟩))
      (first
       |((go_at_call 206;go_split_ands;refine(PF _ (Hid.o (by assumption))).mono ?_;rintro e d ⟨rfl,H,L⟩))
       |((go_at_call 160;go_split_ands;refine(FM _ (Hid.o (by assumption))).mono ?_;rintro e d ⟨rfl,H,L⟩)))
     have l:Hid (Mid (w.alloc (.cells #[.int .i64 (a:Int),.int .i64 (b:Int)] 205)) mb N T D m d):=by assumption
     have q5:d.cell? (J lb 1)=some (.map (some mb)):=I6 j.o l.o.chg A5.o;have q6:d.cell? (J w.heap.size 0)=some (.int .i64 (a:Int)):=I6 j.o l.o.chg A6.o;have q7:d.cell? (J w.heap.size 1)=some (.int .i64 (b:Int)):=I6 j.o l.o.chg A7.o;have az:=World.block_lt_of_cell? d _ q6;clear PF FM;cases r2
     · obtain⟨y,u,t⟩:=V.o d l.o trivial false (by rw[p.o];rfl);have aj:(Instr.mapUpdate 100 (.map (some mb)) (.agg #[.int .i64 (a:Int),.int .i64 (b:Int)]) (.int .i64 2)).run prog d.drew= .ok () y:=u;have B:Hid (M8a w mb N T D (a+b) R (.returned (.bool false)) y):=by
        show M8a _ _ _ _ _ _ _ _ _;rw[p.o];exact t
       clear u t;go_wp2_with fail
       go_region
       go_wp2;go_ret;exact B.o
     · obtain⟨y,u,t⟩:=V.o d l.o trivial true (by rw[p.o];rfl);have aj:(Instr.mapUpdate 100 (.map (some mb)) (.agg #[.int .i64 (a:Int),.int .i64 (b:Int)]) (.int .i64 1)).run prog d.drew= .ok () y:=u;have B:Hid (M8a w mb N T D (a+b) R (.returned (.bool true)) y):=by
        show M8a _ _ _ _ _ _ _ _ _;rw[p.o];exact t
       clear u t;go_wp2_with fail
       go_region
       go_wp2;go_ret;exact B.o
 · have b7:(k==0)=false:=by simp[ab]
   have p:Hid (F2 (tr T a) (tr T b)=(k==1)):=by
    rcases ae with h|⟨_,_,⟨i,z⟩|⟨i,z⟩⟩
    · exact absurd h ab
    · show _=_;rw[z,i];rfl
    · show _=_;rw[z,i];rfl
   have HX:Hid (∀a8,M8a w mb N T D (a+b) (F2 (tr T a) (tr T b)) (.returned (.bool (k==1))) ((w.alloc (.cells #[.int .i64 (a:Int),.int .i64 (b:Int)] 205)).drewN a8)):=by
    intro a8;rw[p.o];exact⟨rfl,((C0.o.mono λ_ _ x=>x.elim).trans (I.drewN _ _ a8) (λ_ _ x=>x)),D,A.o.mst.chg (I.drewN No _ a8) (λx=>x),λ_ _ _ _ _=>rfl⟩
   clear ae h W HF V;generalize F2 (tr T a) (tr T b)=R at *;go_enter func192,ntmps192;go_wp2_with fail
   go_quiet (fail)
   go_wp2;go_ret;exact HX.o _
theorem D7a{a:Nat}(b:TsOk T)(c:a<T.length):(tr T a).k=T[a].kind:=by rw[Y0 b c];rfl
theorem U8c{a:Nat}(b:TsOk T)(c:a<T.length):(tr T a).ns=T[a].fields.map (·.1):=by rw[Y0 b c];rfl
theorem R7a{a:Nat}(b:TsOk T)(c:a<T.length)(d:T[a].kind≠7):T[a].fields=[]:=by
 rcases b a c with h|h|h|h|h
 · exact h.2.2.1
 · omega
 · exact h.2.1
 · exact h.2.1
 · exact h.2.1
theorem L7b{a:Nat}(b:TsOk T)(c:a<T.length)(d:T[a].kind=7\/T[a].kind=8):T[a].list=[]:=by
 rcases b a c with h|h|h|h|h
 · omega
 · exact h.2.1
 · exact h.2.2.1
 · omega
 · omega
theorem M9a{a:Nat}(b:TsOk T)(c:a<T.length):(tr T a).ks=(if T[a].kind=8\/T[a].kind=9 then [tr T T[a].of'.toNat] else [])++(T[a].fields.map λp=>tr T p.2.toNat)++T[a].list.map λx=>tr T x.toNat:=by rw[Y0 b c];rfl
section
variable{a b:Nat}(c:TsOk T)(e:a<T.length)(d:b<T.length)
include c e d
theorem Q7c(h:T[a].kind=5\/T[b].kind=5\/T[b].kind=6):F2 (tr T a) (tr T b)=true:=by
 rw[F3a,D7a c e,D7a c d,rY h]
theorem Q9c(h:¬(T[a].kind=5\/T[b].kind=5\/T[b].kind=6))(f:T[a].kind=10):F2 (tr T a) (tr T b)= !T[a].list.any λx=> !F2 (tr T x.toNat) (tr T b):=by
 rw[K0a (λx:Int=>F2 (tr T x.toNat) (tr T b)),F3a,D7a c e,D7a c d,yY h,rY f,M9a c e,R7a c e (by omega),yY (by omega)];simp[List.all_map,Function.comp_def]
theorem Q8c(h:¬(T[a].kind=5\/T[b].kind=5\/T[b].kind=6))(f:T[a].kind≠10)(g:T[b].kind=10):F2 (tr T a) (tr T b)=T[b].list.any λx=>F2 (tr T a) (tr T x.toNat):=by
 rw[F3a,D7a c e,D7a c d,yY h,yY f,rY g,M9a c d,R7a c d (by omega),yY (by omega)];simp[List.any_map,Function.comp_def]
theorem R0c(h:¬(T[a].kind=5\/T[b].kind=5\/T[b].kind=6))(f:T[a].kind≠10)(g:T[b].kind≠10)(i:T[a].kind≠T[b].kind):F2 (tr T a) (tr T b)=false:=by
 rw[F3a,D7a c e,D7a c d,yY h,yY f,yY g,rY i]
theorem R1c(g:T[a].kind=7)(h:T[b].kind=7):F2 (tr T a) (tr T b)=T[b].fields.all λp=>S5 T T[a].fields p:=by
 rw[F3a,D7a c e,D7a c d,yY (by omega),yY (by omega),yY (by omega),yY (by omega),rY g,M9a c d,M9a c e,U8c c e,U8c c d,yY (by omega),yY (by omega),L7b c e (.inl g),L7b c d (.inl h)];simp only[lY,List.map_nil,zY];generalize T[b].fields=f;induction f with
 |nil=>rfl
 |cons p f i=>rw[uY,uY,List.zip_cons_cons,List.all_cons,List.all_cons,i];rfl
theorem R2c(f:T[a].kind=8)(g:T[b].kind=8):F2 (tr T a) (tr T b)=F2 (tr T T[a].of'.toNat) (tr T T[b].of'.toNat):=by
 rw[F3a,D7a c e,D7a c d,yY (by omega),yY (by omega),yY (by omega),yY (by omega),yY (by omega),rY f,M9a c d,M9a c e,rY (.inl f),rY (.inl g)];rfl
theorem D8c(h:¬(T[a].kind=5\/T[b].kind=5\/T[b].kind=6))(f:T[a].kind≠10)(k:T[a].kind=T[b].kind)(g:T[a].kind≠7)(i:T[a].kind≠8)(j:T[a].kind≠9):F2 (tr T a) (tr T b)=true:=by
 rw[F3a,D7a c e,D7a c d,yY h,yY f,yY (by omega),yY (by omega),yY g,yY i,yY j]
end
theorem T4d{w wc b:lZ}{D:Dt}{m n:Nat}{R:Bool}(f:I No w wc)(a:Mid wc mb N T D m b)(i:m<=n+1):M8a w mb N T D n R (.returned (.bool R)) b:=by
 obtain⟨c,d,e⟩:=a.memo;exact⟨rfl,(f.mono λ_ _ x=>x.elim).trans a.chg (λ_ _ x=>x),c,d,λp q g h j=>e p q g h (by omega)⟩
theorem G9d(m:Nat)(M:P2a lb mb N T m)(w:lZ)(D:Dt)(h:Shp w lb mb N T D)(a b:Nat)(k:a<T.length)(l:b<T.length)(hm:a+b=m):
 Calls prog 160 #[pV lb,U (a:Int),U (b:Int)] w (M8a w mb N T D (a+b) (F2 (tr T a) (tr T b))):=by
 have bm:=mkf;have j:=h.ok;have bg:=h.few;obtain⟨ad,ar,a3,au,bj,fz,a7⟩:=h.cell;obtain⟨g,fa,fc,la,ac,rfl,hg,bf,av,x0,x1,x2,x3,ai,ak⟩:=a7 a k;obtain⟨g',fb,a4,a8,bc,ag,-,-,-,z0,z1,z2,z3,aj,al⟩:=a7 b l;simp only[zQ,Addr.mk.injEq,and_true]at ag;subst ag;unfold maxLen at av;have bd:(a:Int)<(T.length:Int):=by omega
 have be:(b:Int)<(T.length:Int):=by omega
 have H0:=O h;have an:=O ai;have ao:=O aj;have ap:=O ak;have aq:=O al;have L:=O hm;have r:=O (Q7c j k l);have v:=O (Q9c j k l);have y:=O (Q8c j k l);have z:=O (R0c j k l);have A:=O (R1c j k l);have B:=O (R2c j k l);have C:=O (λ(P:T[a].kind=9) (ab:T[b].kind=9) (am:lZ) (h1:Shp am lb mb N T D)=>U6a m M am D h1 a b k l hm P ab);have E:=O (D8c j k l);have LA:=O (j a k).lst;have LB:=O (j b l).lst;have FA:=O (j a k).fld;have FB:=O (j b l).fld;have OA:=O (λt=>(j a k).of t);have OB:=O (λt=>(j b l).of t);clear h a7 ai ak aj al hm;generalize aw:T[a].kind=d at *;generalize ax:T[b].kind=n at *;clear aw ax;generalize T[a].fields=V at *;generalize T[b].fields=X at *;generalize T[a].list=xs at *;generalize T[b].list=ys at *;generalize T[a].of'=Y at *;generalize T[b].of'=Z at *;generalize F2 (tr T a) (tr T b)=b4 at *;obtain⟨e0,e1,e2⟩:=I2a w (.cells #[pV lb] 41) (.cells #[U (a:Int)] 3) (.cells #[U (b:Int)] 3);have B0:Hid (Box (((w.alloc (.cells #[pV lb] 41)).alloc (.cells #[U (a:Int)] 3)).alloc (.cells #[U (b:Int)] 3)) w.heap.size (pV lb) 41):=⟨e0⟩;have B1:Hid (Box (((w.alloc (.cells #[pV lb] 41)).alloc (.cells #[U (a:Int)] 3)).alloc (.cells #[U (b:Int)] 3)) (w.heap.size+1) (U (a:Int)) 3):=⟨e1⟩;have B2:Hid (Box (((w.alloc (.cells #[pV lb] 41)).alloc (.cells #[U (a:Int)] 3)).alloc (.cells #[U (b:Int)] 3)) (w.heap.size+1+1) (U (b:Int)) 3):=⟨e2⟩;have s:∀{q a9 aa},w.cell? (J q a9)=some aa->(((w.alloc (.cells #[pV lb] 41)).alloc (.cells #[U (a:Int)] 3)).alloc (.cells #[U (b:Int)] 3)).cell? (J q a9)=some aa:=λ{q a9 aa} t=>by
  have R:q<w.heap.size:=World.block_lt_of_cell? w _ t;exact I5 (by simp;omega) (I5 (by simp;omega) (I5 R t))
 have C3:=O (((I.alloc No w (.cells #[pV lb] 41)).trans (I.alloc No _ (.cells #[U (a:Int)] 3)) (λ_ _ x=>x)).trans (I.alloc No _ (.cells #[U (b:Int)] 3)) (λ_ _ x=>x));have b0:=B0.o.cell;have b1:=B1.o.cell;have b2:=B2.o.cell;replace a3:=s a3;replace x0:=s x0;replace x1:=s x1;replace x2:=s x2;replace x3:=s x3;replace z0:=s z0;replace z1:=s z1;replace z2:=s z2;replace z3:=s z3;have ah:(((w.alloc (.cells #[pV lb] 41)).alloc (.cells #[U (a:Int)] 3)).alloc (.cells #[U (b:Int)] 3)).heap.size=w.heap.size+3:=by simp
 clear s e0 e1 e2 au fz;go_enter func160,ntmps160;go_wp2_with fail
 generalize (((w.alloc (.cells #[pV lb] 41)).alloc (.cells #[U (a:Int)] 3)).alloc (.cells #[U (b:Int)] 3))=W at *;have b3:=O ah;have bh:g<W.heap.size:=by omega
 have bi:lb<W.heap.size:=by omega
 have bp:w.heap.size<W.heap.size:=by omega
 have bq:w.heap.size+1<W.heap.size:=by omega
 have br:w.heap.size+1+1<W.heap.size:=by omega
 clear ah;go_cut [7,8] (λv7 v8 wc=>∃p q:Nat,v7=pV p/\v8=pV q/\Hid (I No W wc)/\wc.cell? (J p 0)=some (U d)/\wc.cell? (J p 1)=some (.slice fa V.length fc)/\wc.cell? (J p 2)=some (.slice la xs.length ac)/\wc.cell? (J p 3)=some (U Y)/\
  wc.cell? (J q 0)=some (U n)/\wc.cell? (J q 1)=some (.slice fb X.length a4)/\wc.cell? (J q 2)=some (.slice a8 ys.length bc)/\wc.cell? (J q 3)=some (U Z))
 case first=>
  go_region_held3 (λf=>f.cell? (J w.heap.size 0)=some (pV lb)/\f.cell? (J (w.heap.size+1) 0)=some (U (a:Int))/\f.cell? (J (w.heap.size+1+1) 0)=some (U (b:Int))/\f.cell? (J lb 0)=some (.slice (some (J g 0)) T.length ar)/\
   f.cell? (J g (a * 4))=some (U d)/\f.cell? (J g (a * 4+1))=some (.slice fa V.length fc)/\f.cell? (J g (a * 4+2))=some (.slice la xs.length ac)/\f.cell? (J g (a * 4+3))=some (U Y)/\
   f.cell? (J g (b * 4))=some (U n)/\f.cell? (J g (b * 4+1))=some (.slice fb X.length a4)/\f.cell? (J g (b * 4+2))=some (.slice a8 ys.length bc)/\f.cell? (J g (b * 4+3))=some (U Z))
   (go_keep) (fail)
  all_goals go_wp2_with fail
  all_goals go_meet
  all_goals exact⟨_,_,rfl,rfl,((I.alloc No _ _).trans (I.alloc No _ _) (λ_ _ x=>x)).trans (I.drewN No _ 1) (λ_ _ x=>x),by simp[go_sem],by simp[go_sem],by simp[go_sem],by simp[go_sem],by simp[go_sem],by simp[go_sem],by simp[go_sem],by simp[go_sem]⟩
 case rest=>
  obtain⟨p,q,rfl,rfl,K,bs,bt,bu,p3,q0,q1,q2,q3⟩:=hcut;have H:=O (H0.o.still (C3.o.trans K.o (λ_ _ x=>x)));have F:=O (C3.o.trans K.o (λ_ _ x=>x));have D0:=O (B0.o.still K.o);have D1:=O (B1.o.still K.o);have D2:=O (B2.o.still K.o);have d0:=D0.o.cell;have d1:=D1.o.cell;have d2:=D2.o.cell;have u:Hid (∀f R',Mid wc mb N T D m f->M8a w mb N T D (a+b) R' (.returned (.bool R')) f):=λf R' o=>T4d F.o o (by have:=L.o;omega);have G:=O (Mid.refl H.o m);have O1:=O (A4 ap.o F.o (λ_ _ x=>x));have O2:=O (A4 aq.o F.o (λ_ _ x=>x));have O3:=O (A4 an.o F.o (λ_ _ x=>x));have O4:=O (A4 ao.o F.o (λ_ _ x=>x));clear x0 x1 x2 x3 z0 z1 z2 z3 b0 b1 b2 a3;by_cases hA5:d=5
  · subst hA5;have c:=r.o (.inl rfl);subst c;go_wp2;go_ret;exact u.o _ _ G.o
  have b8:(d==5)=false:=by simp[hA5]
  by_cases ae:n=5
  · subst ae;have c:=r.o (.inr (.inl rfl));subst c;go_wp2;go_ret;exact u.o _ _ G.o
  have ba:(n==5)=false:=by simp[ae]
  by_cases af:n=6
  · subst af;have c:=r.o (.inr (.inr rfl));subst c;go_wp2;go_ret;exact u.o _ _ G.o
  have bb:(n==6)=false:=by simp[af]
  have S:Hid (¬(d=5\/n=5\/n=6)):=by show¬_;omega
  by_cases hA10:d=10
  · subst hA10;have c:=v.o S.o rfl;have i:=G2b m M wc D H.o la ac xs O1.o b w.heap.size (w.heap.size+1+1) l (λx t=>by have:=LA.o x t;have:=L.o;omega) D0.o D2.o;generalize (xs.any λx=> !F2 (tr T x.toNat) (tr T b))=R1 at *;subst c;clear r v y z A B C E;go_wp2_with fail
    refine i.mono ?_;clear i;rintro e a2 ⟨rfl,o⟩;go_wp2;go_ret;exact u.o _ _ o
  have b7:(d==10)=false:=by simp[hA10]
  by_cases a6:n=10
  · subst a6;have c:=y.o S.o hA10 rfl;have i:=G1b m M wc D H.o a8 bc ys O2.o a w.heap.size (w.heap.size+1) k (λx t=>by have:=LB.o x t;have:=L.o;omega) D0.o D1.o;generalize (ys.any λx=>F2 (tr T a) (tr T x.toNat))=R1 at *;subst c;clear r v y z A B C E;go_wp2_with fail
    refine i.mono ?_;clear i;rintro e a2 ⟨rfl,o⟩;go_wp2;go_ret;exact u.o _ _ o
  have b9:(n==10)=false:=by simp[a6]
  by_cases a5:d=n
  · subst a5;have ay:(d !=d)=false:=by simp
    by_cases h7:d=7
    · subst h7;have c:=A.o rfl rfl;have i:=A9b m M wc D H.o fa fc V O3.o fb a4 X O4.o (λp hp=>by have az:=FA.o p hp;have bk:=L.o;exact⟨az.1,by omega,λq R=>by have:=FB.o q R;omega⟩) (λq R=>by have:=FB.o q R;omega);generalize (X.all λp=>S5 T V p)=R1 at *;subst c;clear r v y z A B C E;go_wp2_with fail
      refine i.mono ?_;clear i;rintro e a2 ⟨rfl,o⟩;go_wp2;go_ret;exact u.o _ _ o
    have b5:(d==7)=false:=by simp[h7]
    by_cases h8:d=8
    · subst h8;have c:=B.o rfl rfl;have bn:=OA.o (.inl rfl);have bo:=OB.o (.inl rfl);obtain⟨o1,rfl⟩:∃x:Nat,Y=(x:Int):=⟨Y.toNat,by omega⟩;obtain⟨o2,rfl⟩:∃x:Nat,Z=(x:Int):=⟨Z.toNat,by omega⟩;simp only[tQ]at c;have i:=K8a M H.o (a:=o1) (b:=o2) (by have:=L.o;omega) (by omega) (by omega) wc G.o;generalize F2 (tr T o1) (tr T o2)=R1 at *;subst c;clear r v y z A B C E;go_wp2_with fail
      refine i.mono ?_;clear i;rintro e a2 ⟨rfl,-,o⟩;go_wp2;go_ret;exact u.o _ _ o
    have b6:(d==8)=false:=by simp[h8]
    by_cases P:d=9
    · subst P;have i:=C.o rfl rfl wc H.o;clear r v y z A B C E;go_wp2_with fail
      refine i.mono ?_;clear i;rintro e a2 ⟨rfl,o,hD⟩;go_wp2;go_ret;exact⟨rfl,(F.o.mono λ_ _ x=>x.elim).trans o (λ_ _ x=>x),hD⟩
    have ab:(d==9)=false:=by simp[P]
    have c:=E.o S.o hA10 rfl h7 h8 P;subst c;clear r v y z A B C E;go_wp2;go_ret;exact u.o _ _ G.o
  · have ay:(d !=n)=true:=by simp[a5]
    have c:=z.o S.o hA10 a6 a5;subst c;clear r v y z A B C E;go_wp2;go_ret;exact u.o _ _ G.o
theorem C3b:∀m,P2a lb mb N T m
 |0=>λa b w D g _ _ _=>by omega
 |m+1=>by
  intro a b w D g c d h;by_cases f:a+b+1<=m
  · exact C3b m a b w D f c d h
  · have e:a+b=m:=by omega
    exact G9d m (C3b m) w D h a b c d e
end
theorem A6b{B:Nat}{w c:lZ}{a:Nat}{e:TypeId}{b:Nat}{v:Value}{n:Nat}{d:List Value}(h:w.ownsRow a e b v n d)(f:Below B w c)(j:∀g,v.ownBlock=some g->g<B):c.ownsRow a e b v n d:=
 A4 h (I.below f) λg i x=>by have:=j g i;omega
def mvF(b:Int)(l:List (bZ×Int)):List (bZ×Int):=l.map λp=>(p.1,p.2+b)
theorem B1d(b:Int){l:List (bZ×Int)}{j:Nat}(a:j<l.length):mvF b (l.take (j+1))=mvF b (l.take j)++[(l[j].1,l[j].2+b)]:=by
 unfold mvF;rw[nQ a,wY];simp
def mvI(b:Int)(l:uZ):uZ:=l.map λx=>x+b
theorem B0d(b:Int){l:uZ}{j:Nat}(a:j<l.length):mvI b (l.take (j+1))=mvI b (l.take j)++[l[j]+b]:=by
 unfold mvI;rw[nQ a,wY];simp
theorem W3b(w:lZ)(a b:Value)(t:TypeId)(q:Nat)(d:q=w.heap.size):∀j u,[a,b][j]? =some u->(w.alloc (.cells #[a,b] t)).cell? (((J q 0):Addr).add j)=some u:=by
 subst d;intro j u c;match j,c with
 |0,c=>simp at c;subst c;simp[Addr.add]
 |1,c=>simp at c;subst c;simp[Addr.add]
theorem X3a{w wr n a:lZ}{n0 q o C j N:Nat}{e:TypeId}{v f:Value}{R S:List Value}{p:Array Value}(hq:wr.heap[q]? =some (.cells p 76 (0,0)))(hn:n0<=q)(ho:wr.ownsRow n0 e C v j R)(K:e≠76)(H:Below n0 w wr)(Y:n0<=w.heap.size)
 (s:I No wr n) (t:n.grownBy a v.ownBlock) (M:a.ownsRow n0 e C f N S):
 (a.cell? (J q o)=p[o]?)/\a.frozen? (J q o)=false/\q<a.heap.size/\Below n0 w (a.setCell (J q o) f)/\(a.setCell (J q o) f).ownsRow n0 e C f N S/\(a.setCell (J q o) f).heap[q]? =some (.cells (p.setIfInBounds o f) 76 (0,0))/\
  (∀(k:Nat) (c:Array Value),k≠q->wr.heap[k]? =some (Obj.cells c 76 (0,0))->(a.setCell (J q o) f).heap[k]? =some (Obj.cells c 76 (0,0)))/\
  (∀{l:TypeId} {D B:Nat} {u:Value} {E:List Value},l≠e->l≠76->wr.ownsRow n0 l D u B E->(a.setCell (J q o) f).ownsRow n0 l D u B E):=by
 have z:n.ownsRow n0 e C v j R:=A4 ho s (λ_ _ x=>x);have P:∀(k:Nat) (c:Array Value),wr.heap[k]? =some (Obj.cells c 76 (0,0))->a.heap[k]? =some (Obj.cells c 76 (0,0)):=by
  intro k c y;have F:n.heap[k]? =some (.cells c 76 (0,0)):=by rw[s.block k (ltG y) (λx=>x)];exact y
  rw[t.block k (ltG F) (λd=> ?_)]
  · exact F
  · obtain⟨_,r,b⟩:=A9 z k d.symm;rw[F]at b;simp only[zQ,xW]at b;exact K b.2.1.symm
 have m:=P q p hq;have V:I (λk=>n0<=k) wr a:=(s.mono λ_ _ x=>x.elim).trans (I.grown t) (λk _ x=>(A9 z k x.symm).1);have W:I (λk=>n0<=k) wr (a.setCell (J q o) f):=V.trans (I.set _ _ _) (λk _ x=>by have x':k=q:=x;omega);refine⟨cell_of_row a q o _ _ _ m,frozen_of_row a q o _ _ m,(ltG m),H.trans (W.toBelow (λ_ _ x=>x) (kQ Y H.size)),A4 M (I.set _ _ _) (λg h d=> ?_),heap_setCell_same a q o _ _ _ m,λk c Z y=> ?_,λ{l D B u E} L X hu=> ?_⟩
 · have G:g=q:=d;subst G;obtain⟨_,r,b⟩:=A9 M g h;rw[m]at b;simp only[zQ,xW]at b;exact K b.2.1.symm
 · rw[heap_setCell_other _ _ _ _ (by exact Z)];exact P k c y
 · have A:n.ownsRow n0 l D u B E:=A4 hu s (λ_ _ x=>x);refine A4 (A4 A (I.grown t) (λg h d=> ?_)) (I.set _ _ _) (λg h d=> ?_)
   · obtain⟨_,r,b⟩:=A9 A g h;obtain⟨_,T,i⟩:=A9 z g d.symm;rw[b]at i;simp only[zQ,xW]at i;exact L i.2.1
   · have G:g=q:=d;subst G;have a2:=A4 A (I.grown t) (λg h d=>by
      obtain⟨_,r,b⟩:=A9 A g h;obtain⟨_,T,i⟩:=A9 z g d.symm;rw[b]at i;simp only[zQ,xW]at i;exact L i.2.1)
     obtain⟨_,r,b⟩:=A9 a2 g h;rw[m]at b;simp only[zQ,xW]at b;exact X b.2.1.symm
theorem P4c(w:lZ)(k o:Int)(a:List (bZ×Int))(c:uZ)(D B:Option Addr)(E C:Nat)(b:Nat)(hf:w.ownsRow 0 131 2 (.slice D a.length E) a.length (G5 a))(hl:w.ownsRow 0 3 1 (.slice B c.length C) c.length (C8 c))
 (hb:b<=4000) (h1:∀aj∈a,0<=aj.2/\aj.2<=4000) (h2:∀x∈c,0<=x/\x<=4000) (ho:0<=o/\o<=4000) (hn:a.length<=2000/\c.length<=2000):
 Calls prog 40 #[.agg #[U k,.slice D a.length E,.slice B c.length C,U o],U (b:Int)] w λal w'=>Below w.heap.size w w'/\
  ∃ad ae ah ai,al= .returned (.agg #[U k,.slice ad a.length ae,.slice ah c.length ai,U (o+b)])/\w'.ownsRow w.heap.size 131 2 (.slice ad a.length ae) a.length (G5 (mvF b a))/\w'.ownsRow w.heap.size 3 1 (.slice ah c.length ai) c.length (C8 (mvI b c)):=by
 have HF:=O hf;have HL:=O hl;have H1:=O h1;have H2:=O h2;obtain⟨b2,b3⟩:=hn;have am:Hid (∀g,Value.ownBlock (.slice D a.length E)=some g->g<w.heap.size):=λg q=>(hf.lt g q).2;have an:Hid (∀g,Value.ownBlock (.slice B c.length C)=some g->g<w.heap.size):=λg q=>(hl.lt g q).2;clear hf hl h1 h2;go_enter func40,ntmps40;go_wp2_with fail
 obtain⟨z0,z1,z2⟩:=I2a w (.cells #[U k,.slice D a.length E,.slice B c.length C,U o] 76) (.cells #[U 0,sN,sN,U 0] 76) (.cells #[U k,sN,sN,U (o+b)] 76);have s:=O z0;have d:=O z1;have e:=O z2;have B3:=O ((((Below.refl w.heap.size w).alloc (vQ _) (.cells #[U k,.slice D a.length E,.slice B c.length C,U o] 76)).alloc (by simp) (.cells #[U 0,sN,sN,U 0] 76)).alloc (by simp;omega) (.cells #[U k,sN,sN,U (o+b)] 76));clear z0 z1 z2;go_loopw [20] (λv wr=>∃(j:Nat) (m:Option Addr) (n:Nat),j<=a.length/\v=U (j:Int)/\Hid (wr.heap[w.heap.size]? =some (.cells #[U k,.slice D a.length E,.slice B c.length C,U o] 76 (0,0)))/\Hid (wr.heap[w.heap.size+1]? =some (.cells #[U 0,sN,sN,U 0] 76 (0,0)))/\
  Hid (wr.heap[w.heap.size+2]? =some (.cells #[U k,.slice m j n,sN,U (o+b)] 76 (0,0)))/\Hid (Below w.heap.size w wr)/\Hid (wr.ownsRow w.heap.size 131 2 (.slice m j n) j (G5 (mvF b (a.take j))))) (λv _=>a.length - (intOf v).toNat)
 case atStart=>exact⟨0,none,0,wQ _,rfl,s.o,d.o,e.o,B3.o,by show World.ownsRow _ _ _ _ _ _ _;exact kW _ _ _ _⟩
 case round=>
  clear s d e B3;obtain⟨j,m,n,hj,rfl,s,d,e,f,p⟩:=hrel;have d0:wr.cell? (J (w.heap.size+2) 1)=some (.slice m j n):=cr e.o rfl;have ag:=(ltG e.o);by_cases a7:j<a.length
  · obtain⟨g,rfl,q,aq,a8,y0,y1⟩:=Y5 (A6b HF.o f.o am.o) a7;have F:=H1.o a[j] (mQ a7);have T:=O (B1d b a7);generalize a[j]=fj at *;obtain⟨nm,y⟩:=fj;simp only at y0 y1 F T;unfold maxLen at a8;obtain⟨i0,a5,a9,aa,ab⟩:=info_parts Tryz.infoField;have L:=O ((p.o.alloc (.cells #[.string ⟨nm.toArray⟩,U y] 131)).alloc (.cells #[.string ⟨nm.toArray⟩,U (y+b)] 131));have ar:=f.o.size;go_wp2_with (at_builtin;refine wpList_append_own_at _ rfl _ _ 74 rfl w.heap.size 131 i0 _ 2 24 underlying74 a5 a9 aa ab rfl (by decide) _ _ _ rfl L.o (J (wr.heap.size+1) 0) 1 1 [.string ⟨nm.toArray⟩,U (y+b)] rfl rfl ?c1 ?c2 ?c3 ?c4 ?c5 ?_)
    case c1=>exact W3b _ _ _ _ _ (by simp)
    case c2=>intro ax K;simp at K;rcases K with rfl|rfl<;>rfl
    case c3=>simp only[maxLen];omega
    case c4=>omega
    case c5=>simp;omega
    · intro v' ac z H _ a4;obtain⟨ay,az,rfl⟩:=B9 z;obtain⟨M,av,aw,N,P,R,G,V⟩:=X3a (o:=1) e.o (by omega) p.o (by decide) f.o (vQ _) ((I.alloc No wr _).trans (I.alloc No _ _) (λ_ _ x=>x)) H z;have K0:ac.cell? (J (w.heap.size+2) 1)=some (.slice m j n):=M;have X:=O N;have Y:=O P;have Z:=O R;have K6:=O (G w.heap.size _ (by omega) s.o);have K7:=O (G (w.heap.size+1) _ (by omega) d.o);clear M N P R G V z H a4 L p s d e f;go_wp2_with fail
      go_roundw
      case rel=>exact⟨j+1,ay,az,by omega,by go_num,K6.o,K7.o,Z.o,X.o,by
       show World.ownsRow _ _ _ _ _ _ _;rw[T.o,O7a];exact Y.o⟩
      case measure=>simp[intOf];omega
  · have ap:j=a.length:=by omega
    subst ap;have r:=O p.o;rw[xZ]at r;have BB:=O f.o;have e2:wr.cell? (J w.heap.size 2)=some (.slice B c.length C):=cr s.o rfl;have au:=(ltG s.o);have af:=(ltG d.o);clear p;go_wp2_with fail
    go_loopw [40] (λv S=>∃(i:Nat) (t:Option Addr) (u:Nat),i<=c.length/\v=U (i:Int)/\Hid (S.heap[w.heap.size+1]? =some (.cells #[U 0,sN,sN,U 0] 76 (0,0)))/\
     Hid (S.heap[w.heap.size+2]? =some (.cells #[U k,.slice m a.length n,.slice t i u,U (o+b)] 76 (0,0)))/\Hid (Below w.heap.size w S)/\Hid (S.ownsRow w.heap.size 131 2 (.slice m a.length n) a.length (G5 (mvF b a)))/\Hid (S.ownsRow w.heap.size 3 1 (.slice t i u) i (C8 (mvI b (c.take i))))) (λv _=>c.length - (intOf v).toNat)
    case atStart=>exact⟨0,none,0,wQ _,rfl,d.o,e.o,BB.o,r.o,by show World.ownsRow _ _ _ _ _ _ _;exact kW _ _ _ _⟩
    case round=>
     clear s d e f d0 e2 au af ag r BB;obtain⟨i,t,u,hi,rfl,d,e,f,r,p⟩:=hrel;have d0:wr.cell? (J (w.heap.size+2) 2)=some (.slice t i u):=cr e.o rfl;have ag:=(ltG e.o);have af:=(ltG d.o);by_cases a6:i<c.length
     · obtain⟨g,rfl,q,aq,a8,y0⟩:=D9 (A6b HL.o f.o an.o) a6;have F:=H2.o c[i] (mQ a6);have T:=O (B0d b a6);generalize c[i]=y at *;unfold maxLen at a8;obtain⟨i0,a5,a9,aa,ab⟩:=info_parts Tryz.infoInt;have L:=O (p.o.alloc (.cells #[U (y+b)] 3));have ar:=f.o.size;go_wp2_with (at_builtin;refine wpList_append_own_at _ rfl _ _ 43 rfl w.heap.size 3 i0 (U 0) 1 8 underlying43 a5 a9 aa ab rfl (by decide) _ _ _ rfl L.o (J wr.heap.size 0) 1 1 [U (y+b)] rfl rfl ?c1 ?c2 ?c3 ?c4 ?c5 ?_)
       case c1=>exact cell_one_new _ _ _
       case c2=>intro ax K;simp at K;rcases K with rfl;rfl
       case c3=>simp only[maxLen];omega
       case c4=>omega
       case c5=>simp;omega
       · intro v' ac z H _ a4;obtain⟨b0,b1,rfl⟩:=B9 z;obtain⟨M,av,aw,N,P,R,G,V⟩:=X3a (o:=2) e.o (by omega) p.o (by decide) f.o (vQ _) (I.alloc No wr _) H z;have K0:ac.cell? (J (w.heap.size+2) 2)=some (.slice t i u):=M;have X:=O N;have Y:=O P;have Z:=O R;have K6:=O (G (w.heap.size+1) _ (by omega) d.o);have K7:=O (V (by decide) (by decide) r.o);clear M N P R G V z H a4 L p d e f r;go_wp2_with fail
         go_roundw
         case rel=>exact⟨i+1,b0,b1,by omega,by go_num,K6.o,Z.o,X.o,K7.o,by
          show World.ownsRow _ _ _ _ _ _ _;rw[T.o,T7];exact Y.o⟩
         case measure=>simp[intOf];omega
     · have ao:i=c.length:=by omega
       subst ao;have OL:=O p.o;rw[xZ]at OL;have m0:wr.cell? (J (w.heap.size+2) 0)=some (U k):=cr e.o rfl;have m1:wr.cell? (J (w.heap.size+2) 1)=some (.slice m a.length n):=cr e.o rfl;have m3:wr.cell? (J (w.heap.size+2) 3)=some (U (o+b)):=cr e.o rfl;have n0:wr.cell? (J (w.heap.size+1) 0)=some (U 0):=cr d.o rfl;have n1:wr.cell? (J (w.heap.size+1) 1)=some (sN):=cr d.o rfl;have n2:wr.cell? (J (w.heap.size+1) 2)=some (sN):=cr d.o rfl;have n3:wr.cell? (J (w.heap.size+1) 3)=some (U 0):=cr d.o rfl;have nf:∀o,wr.frozen? (J (w.heap.size+1) o)=false:=λo=>frozen_of_row wr _ o _ _ d.o;have CC:∀a0 a1 h l,I (λk=>k=w.heap.size+1) wr ((((wr.setCell (J (w.heap.size+1) 0) a0).setCell (J (w.heap.size+1) 1) a1).setCell (J (w.heap.size+1) 2) h).setCell (J (w.heap.size+1) 3) l):=λa0 a1 h l=>
        (((I.set wr (J (w.heap.size+1) 0) a0).trans (I.set _ (J (w.heap.size+1) 1) a1) (λ_ _ x=>x)).trans (I.set _ (J (w.heap.size+1) 2) h) (λ_ _ x=>x)).trans (I.set _ (J (w.heap.size+1) 3) l) (λ_ _ x=>x)
       have W:∀a0 a1 h l,Hid (Below w.heap.size w ((((wr.setCell (J (w.heap.size+1) 0) a0).setCell (J (w.heap.size+1) 1) a1).setCell (J (w.heap.size+1) 2) h).setCell (J (w.heap.size+1) 3) l)/\
        ((((wr.setCell (J (w.heap.size+1) 0) a0).setCell (J (w.heap.size+1) 1) a1).setCell (J (w.heap.size+1) 2) h).setCell (J (w.heap.size+1) 3) l).ownsRow w.heap.size 131 2 (.slice m a.length n) a.length (G5 (mvF b a))/\
        ((((wr.setCell (J (w.heap.size+1) 0) a0).setCell (J (w.heap.size+1) 1) a1).setCell (J (w.heap.size+1) 2) h).setCell (J (w.heap.size+1) 3) l).ownsRow w.heap.size 3 1 (.slice t c.length u) c.length (C8 (mvI b c))):=by
        intro a0 a1 h l;refine⟨f.o.trans ((CC a0 a1 h l).toBelow (λk _ x=>by omega) f.o.size),A4 r.o (CC a0 a1 h l) (λg q F=> ?_),A4 OL.o (CC a0 a1 h l) (λg q F=> ?_)⟩
        · subst F;obtain⟨_,ak,hh⟩:=A9 r.o _ q;have A:=d.o;rw[hh]at A;simp only[zQ,xW]at A;exact absurd A.2.1 (by decide)
        · subst F;obtain⟨_,ak,hh⟩:=A9 OL.o _ q;have A:=d.o;rw[hh]at A;simp only[zQ,xW]at A;exact absurd A.2.1 (by decide)
       clear CC;go_wp2_with fail
       exact bodyPost_ret (v:= .agg #[U k,.slice m a.length n,.slice t c.length u,U (o+b)]) (by simp[results,results40,go_sem,n0,n1,n2,n3]) rfl ⟨(W _ _ _ _).o.1,m,n,t,u,rfl,(W _ _ _ _).o.2.1,(W _ _ _ _).o.2.2⟩
section
variable{a b N:Nat}
theorem W9b(T X:List Ty){j:Nat}(c:j<X.length):Z9 T (X.take (j+1))=Z9 T (X.take j)++[mvT T.length X[j]]:=by
 unfold Z9;rw[nQ c,wY];simp
def L4a(a:Nat)(v:Value)(k:Nat):Prop:=k=a\/some k=v.ownBlock
structure Sho(w:lZ)(a b N:Nat)(T:List Ty)(D:Dt)(ok:Nat->Prop):Prop where
 tsok:TsOk T
 mst:Mst w b N T D
 blk:∃yv yx,w.heap[a]? =some (.cells #[yv,.map (some b)] 102 (0,0))/\w.ownsRow a 76 4 yv T.length yx/\Rws (TyV w ok) T yx
theorem TyV.mono{w:lZ}{d ok':Nat->Prop}(e:∀g,d g->g<w.heap.size->ok' g)(t:Ty)(c:List Value)(h:TyV w d t c):TyV w ok' t c:=TyV.chg (I.refl No w) (λ_ _ _ x=>x.elim) e t c h
theorem Sho.shp{w:lZ}{T:List Ty}{D:Dt}{i:Nat->Prop}(h:Sho w a b N T D i):Shp w a b N T D:=by
 obtain⟨c,d,j,k,e,f,g⟩:=h;exact⟨c,d,j,k,e,f,g.imp (TyV.mono λ_ _ _=>trivial)⟩
theorem Shp.sho{w:lZ}{T:List Ty}{D:Dt}(h:Shp w a b N T D):Sho w a b N T D (λ_=>True):=⟨h.ok,h.mst,h.blk⟩
theorem Sho.chg{S:Nat->Prop}{w m:lZ}{T:List Ty}{D n:Dt}{l ok':Nat->Prop}(h:Sho w a b N T D l)(i:I S w m)(s:Mst m b N T n)
 (j:∀k c e,w.heap[k]? =some (.cells c e (0,0))->(e=102\/e=76\/((e=131\/e=3)/\l k))->¬S k) (t:∀g,l g->g<w.heap.size->ok' g):Sho m a b N T n ok':=by
 obtain⟨p,_,z,A,f,o,v⟩:=h;refine⟨p,s,z,A, ?_,A4 o i λg r x=> ?_,v.imp (TyV.chg i (λg u _ y d=> ?_) t)⟩
 · rw[i.block a (ltG f) (j a _ _ f (.inl rfl))];exact f
 · obtain⟨_,c,d⟩:=A9 o g r;exact j g c _ d (.inr (.inl rfl)) x
 · obtain⟨c,e,d,q⟩:=d;exact j g c _ d (.inr (.inr ⟨q,u⟩)) y
theorem Sho.still{w e:lZ}{T:List Ty}{D:Dt}{d:Nat->Prop}(h:Sho w a b N T D d)(c:I No w e):Sho e a b N T D d:=h.chg c (h.mst.chg c (λx=>x)) (λ_ _ _ _ _ x=>x) (λ_ x _=>x)
theorem Sho.push{ok:Nat->Prop}{wr w4 w5:lZ}{T:List Ty}{D:Dt}{d:Option Addr}{c gg cap:Nat}{l:List Value}{t:Ty}{fv lv:Value}(q:wr.heap[a]? =some (.cells #[.slice d T.length c,.map (some b)] 102 (0,0)))(u:TsOk T)(M:TyOk t T.length)(r:Mst wr b N T D)(S:T.length+1<=N)
 (z:wr.ownsRow a 76 4 (.slice d T.length c) T.length l) (K:Rws (TyV wr ok) T l) (n:I No wr w4) (P:TyV w4 ok t [U t.kind,fv,lv,U t.of'])
 (y:w4.grownBy w5 (Value.ownBlock (.slice d T.length c))) (B:w5.ownsRow a 76 4 (.slice (some (J gg 0)) (T.length+1) cap) (T.length+1) (l++[U t.kind,fv,lv,U t.of'])):
 w5.cell? (J a 0)=some (.slice d T.length c)/\w5.frozen? (J a 0)=false/\a<w5.heap.size/\I (L4a a (.slice d T.length c)) wr (w5.setCell (J a 0) (.slice (some (J gg 0)) (T.length+1) cap))/\Sho (w5.setCell (J a 0) (.slice (some (J gg 0)) (T.length+1) cap)) a b N (T++[t]) D ok/\
  (w5.setCell (J a 0) (.slice (some (J gg 0)) (T.length+1) cap)).cell? (J a 0)=some (.slice (some (J gg 0)) (T.length+1) cap):=by
 have A:w4.ownsRow a 76 4 (.slice d T.length c) T.length l:=A4 z n (λ_ _ x=>x);have o:w4.heap[a]? =some (.cells #[.slice d T.length c,.map (some b)] 102 (0,0)):=by rw[n.block a (ltG q) (λx=>x)];exact q
 have H:some a≠Value.ownBlock (.slice d T.length c):=by
  intro f;obtain⟨_,m,h⟩:=A9 A a f.symm;rw[o]at h;simp only[zQ,xW]at h;exact absurd h.2.1 (by decide)
 have j:w5.heap[a]? =some (.cells #[.slice d T.length c,.map (some b)] 102 (0,0)):=by rw[y.block a (ltG o) H];exact o
 have p:I (L4a a (.slice d T.length c)) w4 (w5.setCell (J a 0) (.slice (some (J gg 0)) (T.length+1) cap)):=((I.grown y).mono λ_ _ x=> .inr x).trans (I.set _ _ _) (λ_ _ x=> .inl x);have s:I (L4a a (.slice d T.length c)) wr (w5.setCell (J a 0) (.slice (some (J gg 0)) (T.length+1) cap)):=(n.mono λ_ _ x=>x.elim).trans p (λ_ _ x=>x);have v:(w5.setCell (J a 0) (.slice (some (J gg 0)) (T.length+1) cap)).heap[a]? =some (.cells #[.slice (some (J gg 0)) (T.length+1) cap,.map (some b)] 102 (0,0)):=by rw[heap_setCell_same w5 a 0 _ _ _ j];rfl
 have G:¬L4a a (.slice d T.length c) b:=by
  rintro(f|f)
  · subst f;exact r.tag _ _ _ q
  · obtain⟨_,m,h⟩:=A9 z b f.symm;exact r.tag _ _ _ h
 have C:∀g,ok g->g<w4.heap.size->L4a a (.slice d T.length c) g->(∃m e,w4.heap[g]? =some (.cells m e (0,0))/\(e=131\/e=3))->False:=by
  rintro g _ _ (f|f) ⟨m,e,h,w⟩
  · subst f;rw[o]at h;simp only[zQ,xW]at h;rcases w with rfl|rfl<;>exact absurd h.2.1 (by decide)
  · obtain⟨_,E,i⟩:=A9 A g f.symm;rw[h]at i;simp only[zQ,xW]at i;rcases w with rfl|rfl<;>exact absurd i.2.1 (by decide)
 have L:Rws (TyV w4 ok) T l:=K.imp (TyV.chg n (λ_ _ _ x=>x.elim) (λ_ x _=>x));refine⟨cr j rfl,frozen_of_row w5 a 0 _ _ j,(ltG j),s,⟨u.snoc M,(r.chg s G).more u [t] (by simp;omega),_,_,v, ?_,(L.imp (TyV.chg p C (λ_ x _=>x))).snoc (TyV.chg p C (λ_ x _=>x) _ _ P)⟩,cr v rfl⟩;have:=A4 B (I.set w5 (J a 0) (.slice (some (J gg 0)) (T.length+1) cap)) (λk F f=>by
  have R:k=a:=f;subst R;obtain⟨_,E,i⟩:=A9 B k F;rw[j]at i;simp only[zQ,xW]at i;exact absurd i.2.1 (by decide))
 simpa using this
theorem X8a{p : Nat -> Prop}{T : List Ty}{D : Dt}(w :lZ)(h : Sho w a b N T D p)(t : Ty)(i m : Option Addr)(k j o n : Nat)(K : TyV w p t [U t.kind, .slice i k j, .slice m o n, U t.of'])(Y : TyOk t T.length)(V : T.length + 1 <= N) :
    Calls prog 21 #[pV a,.agg #[U t.kind,.slice i k j,.slice m o n,U t.of']] w λe L=>e= .returned (U (T.length:Int))/\(∃v,w.cell? (J a 0)=some v/\I (L4a a v) w L)/\Sho L a b N (T++[t]) D p:=by
  have a8:=h.shp.few
  obtain⟨W,E,yv,yx,d,g,H⟩:=h
  obtain⟨f,c,rfl⟩:=B9 g
  have C:=(ltG d)
  have A:w.cell? (J a 0)=some (.slice f T.length c):=cr d rfl
  have S:w.frozen? (J a 0)=false:=frozen_of_row w a 0 _ _ d
  have u:=O (λ(P a5:lZ) (r q:Nat) (B:I No w P)=>Sho.push (ok:=p) (w4:=P) (w5:=a5) (gg:=r) (cap:=q) d W Y E V g H B (TyV.chg B (λ_ _ _ x=>x.elim) (λ_ x _=>x) _ _ K))
  have F:Value.ownBlock (.slice f T.length c)≠some a:=by
    intro Z
    obtain⟨_,a6,s⟩:=A9 g a Z
    rw[d]at s
    simp only[zQ,xW]at s
    exact absurd s.2.1 (by decide)
  have R:Hid (w.cell? (J a 0)=some (.slice f T.length c)):=A
  have z:=O g
  obtain⟨i0,X,a2,a3,a4⟩:=info_parts Tryz.infoTy
  clear K d g H E
  go_enter func21,ntmps21
  go_wp2_with fail
  go_region_law ((refine step_append_lies _ (by rfl) _ _ _ (by rfl) a 76 i0 _ 4 64 underlying38 X a2 a3 a4 rfl (by omega) (.slice f T.length c) T.length yx (by rfl) (((z.o.alloc _).alloc _).drew) (J (w.heap.size + 1) 0) 1 1 [U t.kind, .slice i k j, .slice m o n, U t.of'] (by rfl) (by rfl) (World.news_of_block (cs := #[U t.kind, .slice i k j, .slice m o n, U t.of']) (t := 76) (fr := (0, 0)) (K7a w _ _)) (by simp [Value.oneCell']) (by omega) (by simp only [maxLen]; omega) (by omega) (by simp; omega) (w.heap.size + 2) (by simp) ?_
                  intro r q M G l a7 a9
                  have z4:M.cell? (J a 0)=some (.slice f T.length c):=by rw[l.cell_far _ (by simp;omega) (Ne.symm F)];exact I5 (by simp;omega) (I5 C A)
                  have y4:M.frozen? (J a 0)=false:=by rw[l.frozen_far _ (by simp;omega) (Ne.symm F)];exact X8 (by simp;omega) (X8 C S)))
  all_goals
    have y:=O (u.o _ _ r q (((I.alloc No w _).trans (I.alloc No _ _) (λ_ _ x=>x)).trans (I.drewN No _ 1) (λ_ _ x=>x)) l G)
    clear l G u z
    go_wp2
    go_ret
    exact⟨M7 (by omega),⟨_,R.o,y.o.2.2.2.1⟩,y.o.2.2.2.2.1⟩
theorem G6b{w:lZ}{o:Option Addr}{l:Nat}{X:List Ty}{p:List Value}(c:w.ownsRow 0 76 4 (.slice o X.length l) X.length p)(u:Rws (TyV w (λ_=>True)) X p){i:Nat}(t:i<X.length):
 ∃g d e j k,o=some (J g 0)/\g<w.heap.size/\X.length<=l/\l<=maxLen/\w.cell? (J g (i * 4))=some (U X[i].kind)/\w.cell? (J g (i * 4+1))=some (.slice d X[i].fields.length e)/\w.cell? (J g (i * 4+2))=some (.slice j X[i].list.length k)/\
  w.cell? (J g (i * 4+3))=some (U X[i].of')/\w.ownsRow 0 131 2 (.slice d X[i].fields.length e) X[i].fields.length (G5 X[i].fields)/\w.ownsRow 0 3 1 (.slice j X[i].list.length k) X[i].list.length (C8 X[i].list):=by
 obtain⟨g,rfl,_,s,q,r,f⟩:=F5 c (by omega);obtain⟨z,v,c⟩:=Rws.at (z:=4) (λ_ _ h=>h.len) i t u;obtain⟨x,y,rfl,m,n,_⟩:=v;obtain⟨d,e,rfl⟩:=B9 m;obtain⟨j,k,rfl⟩:=B9 n;refine⟨g,d,e,j,k,rfl,s,q,r,f _ _ ?_,f _ _ ?_,f _ _ ?_,f _ _ ?_,m,n⟩
 · have:=c 0 (by omega);simpa using this
 · have:=c 1 (by omega);simpa using this
 · have:=c 2 (by omega);simpa using this
 · have:=c 3 (by omega);simpa using this
theorem F4c{w:lZ}{v:Value}{n:Nat}{m:List Value}{j:Array Value}(k:w.heap[a]? =some (.cells j 102 (0,0)))(l:w.ownsRow a 76 4 v n m):∀g,True->g<w.heap.size->L4a a v g->(∃h e,w.heap[g]? =some (.cells h e (0,0))/\(e=131\/e=3))->False:=by
 rintro g _ _ (f|f) ⟨h,e,c,i⟩
 · subst f;rw[k]at c;simp only[zQ,xW]at c;rcases i with rfl|rfl<;>exact absurd c.2.1 (by decide)
 · obtain⟨_,o,d⟩:=A9 l g f.symm;rw[c]at d;simp only[zQ,xW]at d;rcases i with rfl|rfl<;>exact absurd d.2.1 (by decide)
def I9e(w:lZ)(a:Nat)(v:Value)(wr:lZ)(n:Nat):Prop:=∃d c,wr.cell? (J a 0)=some (.slice d n c)/\(Value.ownBlock (.slice d n c)=v.ownBlock\/∀g,Value.ownBlock (.slice d n c)=some g->w.heap.size<=g)
theorem E8d{T : List Ty}{ac : Dt}{A : Nat -> Prop}(w :lZ)(h : Sho w a b N T ac A)(b3 : ∀ g, w.heap.size <= g -> A g)(X : List Ty)(xa : Option Addr)(xc : Nat)(xx : List Value)(V : w.ownsRow 0 76 4 (.slice xa X.length xc) X.length xx)(ba : Rws (TyV w (λ_ => True)) X xx)(hX : TsOk X)
    (hq:∀t∈X,t.fields.length<=1001/\t.list.length<=1001/\(t.kind=8\/t.kind=9\/t.of'=0)) (hN:T.length+X.length<=N) (W:Value) (b9:w.cell? (J a 0)=some W) (b8:∀g,W.ownBlock=some g->Value.ownBlock (.slice xa X.length xc)≠some g):
    Calls prog 20 #[pV a,.slice xa X.length xc] w λe w'=>e= .returned (U ((T.length:Int)+X.length - 1))/\I (L4a a W) w w'/\Sho w' a b N (Z9 T X) ac A/\I9e w a W w' (T.length+X.length):=by
  have c6:=h.shp.few
  have c3:=h.mst.few
  have hT:=h.tsok
  obtain⟨Y,cb,R,ai,-⟩:=h.blk
  have bs:W=Y:=by
    have:w.cell? (J a 0)=some Y:=cr R rfl
    rw[b9]at this
    exact bY this
  subst bs
  obtain⟨a3,a5,rfl⟩:=B9 ai
  have c7:=(ltG R)
  have bj:Hid (∀wr,I (L4a a (.slice a3 T.length a5)) w wr->wr.ownsRow 0 76 4 (.slice xa X.length xc) X.length xx/\Rws (TyV wr (λ_=>True)) X xx):=by
    intro wr r
    refine⟨A4 V r (λg y l=> ?_),ba.imp (TyV.chg r (F4c R ai) (λ_ _ _=>trivial))⟩
    rcases l with l|l
    · subst l
      obtain⟨_,bm,z⟩:=A9 V g y
      rw[R]at z
      simp only[zQ,xW]at z
      exact absurd z.2.1 (by decide)
    · exact b8 g l.symm y
  have HQ:=O hq
  have H0:=O h
  have bk:=O hX
  clear h V ba hq b8 R ai hX
  have ax:∀j,j<=X.length->(Z9 T (X.take j)).length=T.length+j:=λj hj=>by simp[Z9];omega
  have bi:=O ax
  clear ax
  go_enter func20,ntmps20
  go_wp2_with fail
  go_loopw [15] (λao wr=>∃(j:Nat),j<=X.length/\ao=U (j:Int)/\Hid (Sho wr a b N (Z9 T (X.take j)) ac A)/\Hid (I (L4a a (.slice a3 T.length a5)) w wr)/\Hid (I9e w a (.slice a3 T.length a5) wr (T.length+j))) (λao _=>X.length - (intOf ao).toNat)
  case atStart=>exact⟨0,wQ _,rfl,by simpa[Z9]using H0,I.refl _ _,⟨a3,a5,by simpa using b9,.inl rfl⟩⟩
  case round=>
    obtain⟨j,hj,rfl,M,Z,RR⟩:=hrel
    have a9:=bi.o j hj
    by_cases a8:j<X.length
    · obtain⟨bc,bb⟩:=bj.o wr Z.o
      obtain⟨g,C,E,G,K,rfl,y,c5,bq,x0,x1,x2,x3,al,am⟩:=G6b bc bb a8
      unfold maxLen at bq
      have s:=bk.o j a8
      have ab:=HQ.o X[j] (mQ a8)
      have HB:=O (W9b T X a8)
      have aw:Hid (TyOk (mvT T.length X[j]) (Z9 T (X.take j)).length):=by
        show TyOk _ _
        rw[a9]
        exact s.mv T.length
      have af:=s.fld
      have ah:=s.lst
      have aj:0<=X[j].of'/\X[j].of'<=4000:=by
        rcases ab.2.2 with h8|h8|h8
        · have:=s.of (.inl h8);omega
        · have:=s.of (.inr h8);omega
        · omega
      have b6:=ab.1
      have b7:=ab.2.1
      clear s ab bc bb
      generalize X[j]=xj at *
      obtain⟨k,f,i,o⟩:=xj
      simp only at x0 x1 x2 x3 al am af ah aj b6 b7
      have bh:=P4c (wr.alloc (.cells #[U k,.slice C f.length E,.slice G i.length K,U o] 76)).drew k o f i C G E K T.length (al.alloc _) (am.alloc _) (by omega) (λan hp=>by have:=af an hp;omega) (λan hp=>by have:=ah an hp;omega) aj ⟨by omega,by omega⟩
      obtain⟨B,c,P,ak⟩:=RR.o
      obtain⟨Y,yx,v,S,n⟩:=M.o.blk
      have bt:Y= .slice B (T.length+j) c:=by
        have:wr.cell? (J a 0)=some Y:=cr v rfl
        rw[P]at this
        exact(bY this).symm
      subst bt
      have aa:=(ltG v)
      have bn:wr.frozen? (J a 0)=false:=frozen_of_row wr a 0 _ _ v
      have bo:(Z9 T (X.take j)).length+1<=N:=by omega
      rw[<-a9]at P ak v S
      have bp:=O a9
      have b2:=M.o.tsok
      have az:=M.o.mst
      generalize Z9 T (X.take j)=u at *
      have c4:u.length<=4000:=by omega
      have HP:=O (λ(aq bz:lZ) (q a4:Nat) (fv bd:Value) (h1:I No wr aq) (s:TyV aq A (mvT T.length ⟨k,f,i,o⟩) [U k,fv,bd,U (o+T.length)])=>Sho.push (ok:=A) (w4:=aq) (w5:=bz) (gg:=q) (cap:=a4) (fv:=fv) (lv:=bd) v b2 aw.o az bo S n h1 s)
      have b0:Value.ownBlock (.slice B u.length c)≠some a:=by
        intro V
        obtain⟨_,bm,z⟩:=A9 S a V
        rw[v]at z
        simp only[zQ,xW]at z
        exact absurd z.2.1 (by decide)
      have bf:Hid (∀d,Below (wr.alloc (.cells #[U k,.slice C f.length E,.slice G i.length K,U o] 76)).drew.heap.size (wr.alloc (.cells #[U k,.slice C f.length E,.slice G i.length K,U o] 76)).drew d->I No wr d):=by
        intro d a6
        exact((I.alloc No wr _).trans (I.drewN No _ 1) (λ_ _ x=>x)).trans (I.below a6) (λkk hk x=>by
          have l:(wr.alloc (.cells #[U k,.slice C f.length E,.slice G i.length K,U o] 76)).drew.heap.size=wr.heap.size+1:=by simp[World.drew]
          have x':(wr.alloc (.cells #[U k,.slice C f.length E,.slice G i.length K,U o] 76)).drew.heap.size<=kk:=x
          omega)
      have HY:=O (λd (r:I No wr d)=>A4 S r (λ_ _ x=>x))
      have p:=O (λd (r:I No wr d)=>show d.cell? (J a 0)=some (.slice B u.length c)/\d.frozen? (J a 0)=false/\a<d.heap.size from ⟨by rw[World.cell?_of_block (r.block a aa (λx=>x))];exact P,by rw[World.frozen?_of_block (r.block a aa (λx=>x))];exact bn,yQ aa r.size⟩)
      have HR:=O ak
      have a2:=O Z.o
      obtain⟨i0,hi,bu,bv,bw⟩:=info_parts Tryz.infoTy
      clear al am af ah aj b6 b7 v S n b2 az ak M Z aw a9
      go_wp2_with fail
      go_region_law (first
        | (refine step_append_lies _ (by rfl) _ _ _ (by rfl) a 76 i0 _ 4 64 underlying38 hi bu bv bw rfl (by omega) (.slice B u.length c) u.length yx (by rfl) ((HY.o d m.o).alloc _) (J d.heap.size 0) 1 1 [U k, .slice D f.length F, .slice H i.length L, U (o + T.length)] (by rfl) (by rfl) (World.news_of_block (cs := #[U k, .slice D f.length F, .slice H i.length L, U (o + T.length)]) (t := 76) (fr := (0, 0)) (qY d _)) (by simp [Value.oneCell']) (by omega) (by simp only [maxLen]; omega) (by omega) (by simp; omega) (d.heap.size + 1) (by simp) ?_
           intro q a4 ap b5 a7 ay c8
           have z4:ap.cell? (J a 0)=some (.slice B u.length c):=by rw[a7.cell_far _ (by have:=(p.o d m.o).2.2;simp;omega) (Ne.symm b0)];exact I5 (p.o d m.o).2.2 (p.o d m.o).1
           have y4:ap.frozen? (J a 0)=false:=by rw[a7.frozen_far _ (by have:=(p.o d m.o).2.2;simp;omega) (Ne.symm b0)];exact X8 (p.o d m.o).2.2 (p.o d m.o).2.1)
        | (go_simp; refine bh.mono ?_; rintro e d ⟨a6, D, F, H, L, rfl, b1, b4⟩; have m := O (bf.o d a6); have zc := (p.o d m.o).1; have c9 := (p.o d m.o).2.2; have ar := O b1; have au := O b4; clear a6 b1 b4))
      all_goals
        have av:Hid (TyV (d.alloc (.cells #[U k,.slice D f.length F,.slice H i.length L,U (o+T.length)] 76)) A (mvT T.length ⟨k,f,i,o⟩) [U k,.slice D f.length F,.slice H i.length L,U (o+T.length)]):=by
          refine⟨_,_,rfl, ?_, ?_,λg y=>b3 g (kQ a2.o.size (kQ (by simp) (ar.o.lt g y).1)),λg y=>b3 g (kQ a2.o.size (kQ (by simp) (au.o.lt g y).1))⟩
          · have:=(C9 ar.o (wQ _)).alloc (.cells #[U k,.slice D f.length F,.slice H i.length L,U (o+T.length)] 76)
            simpa[mvT,mvF]using this
          · have:=(C9 au.o (wQ _)).alloc (.cells #[U k,.slice D f.length F,.slice H i.length L,U (o+T.length)] 76)
            simpa[mvT,mvI]using this
        have ae:=O (HP.o _ ap q a4 _ _ (m.o.trans (I.alloc No d _) (λ_ _ x=>x)) av.o a7 b5)
        have be:=O ay
        have bg:=O (m.o.size)
        clear a7 b5 ay HP HY av
        go_wp2
        go_roundw
        case rel=>
          have ca:=a2.o.size
          refine⟨j+1,by omega,by go_num,by rw[HB.o];exact ae.o.2.2.2.2.1,a2.o.trans ae.o.2.2.2.1 (λbx hi l=> ?_),⟨some (J q 0),a4, ?_, ?_⟩⟩
          · rcases l with l|l
            · exact .inl l
            · rcases HR.o with n|n
              · exact .inr (l.trans n)
              · have:=n bx l.symm;omega
          · have e:T.length+(j+1)=u.length+1:=by have:=bp.o;omega
            rw[e]
            exact ae.o.2.2.2.2.2
          · rcases be.o with ha|ha
            · rcases HR.o with n|n
              · left
                show some q=_
                rw[<-ha]
                exact n
              · right
                intro g' ag
                have e:some q=some g':=ag
                cases e
                exact n q ha
            · right
              intro g' ag
              have e:some q=some g':=ag
              cases e
              have:=bg.o
              omega
        case measure=>simp[intOf];omega
    · have br:j=X.length:=by omega
      subst br
      rw[xZ]at *
      obtain⟨B,c,P,-⟩:=id RR.o
      have aa:a<wr.heap.size:=World.block_lt_of_cell? wr _ P
      go_wp2_with fail
      go_ret
      exact⟨M7 (by omega),Z.o,M.o,RR.o⟩
end
theorem R1d(w:lZ):Calls prog 18 #[] w λe a=>e= .returned (pV (w.heap.size+1))/\I No w a/\Shp a (w.heap.size+1) w.heap.size 4000 [] (.map [])/\a.cell? (J (w.heap.size+1) 0)=some (sN):=by
 have f:=@run_makeMap prog;have b:Hid (((w.alloc (.map #[] 0)).alloc (.cells #[sN,.map (some w.heap.size)] 102)).heap[w.heap.size+1]? =some (.cells #[sN,.map (some w.heap.size)] 102 (0,0))):=by
  have:=qY (w.alloc (.map #[] 0)) (.cells #[sN,.map (some w.heap.size)] 102);rw[show (w.alloc (.map #[] 0)).heap.size=w.heap.size+1 from by simp]at this;exact this
 have c:Hid (Shp ((w.alloc (.map #[] 0)).alloc (.cells #[sN,.map (some w.heap.size)] 102)) (w.heap.size+1) w.heap.size 4000 [] (.map [])):=
  ⟨by intro i d;simp at d,(R4d w 4000 (vQ _)).chg (I.alloc No _ _) (λx=>x),_,[],b.o,kW _ _ _ _,rfl⟩
 go_enter func18,ntmps18;go_wp2;go_ret;exact⟨rfl,(I.alloc No _ _).trans (I.alloc No _ _) (λ_ _ x=>x),c.o,cr b.o rfl⟩
