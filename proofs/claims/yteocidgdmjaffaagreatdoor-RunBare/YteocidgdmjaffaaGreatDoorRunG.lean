/-
  A part of the proof.
-/
import Derived.Test.YteocidgdmjaffaaGreatDoorRunF
set_option maxHeartbeats 0
set_option linter.all false
set_option maxRecDepth 100000
namespace Go.Proofs.YteocidgdmjaffaaGreatDoor
open Go.Proofs.Tryz
open Go.RowKit
def YP{w:E}{c}{b}{a}{d}(h:w.ownsRow d 9 1 (.slice c a.length b) a.length (strs a)){j}(e):∃g,c=some (J g 0)/\g<w.heap.size/\a.length<=b/\b<=maxLen/\w.cell? (J g j)=some (.string ⟨a[j].toArray⟩):=by
 grind[D4,strs]
def UU(w:E){o p}{d f}{g i}{l a}(b:l<+:a)(A:w.ownsRow o 9 1 (.slice d l.length g) l.length (strs l))(B:w.ownsRow p 9 1 (.slice f a.length i) a.length (strs a)):
 Calls prog 13 #[.slice d l.length g,.slice f l.length i] w λe D=>e=.returned (.bool true)/\I No w D:=by
 have m:=O A;have n:=O B;have k:Hid (∀j (h:j<l.length),∃M:j<a.length,a[j]=l[j]):=λj h=>⟨yQ h b.length_le,(b.getElem h).symm⟩;have G:=O b.length_le;go_in;go_wp2;go_loopw [5] (λv wr=>∃j:Nat,j<=l.length/\v=U j/\Hid (I No w wr)) (λv _=>l.length-(intOf v).toNat);case atStart=>exact⟨0,wQ _,rfl,I.refl _ _⟩
 case round=>
  obtain⟨j,T,rfl,CR⟩:=hrel;by_cases c:j<l.length
  .obtain⟨u,e⟩:=k.u j c;obtain⟨H,q,R,N,s,V⟩:=YP (A3 m.u CR.u (λ_ _ x=>x)) c;obtain⟨L,r,S,P,t,F⟩:=YP (A3 n.u CR.u (λ_ _ x=>x)) u;subst q r;rw[e]at F;unfold maxLen at s t;generalize l[j]=z at*;go_wp2;go_region;all_goals go_wp2
   all_goals go_roundw
   case rel=>exact⟨j+1,by omega,by go_num,CR.u.trans (I.drewN No _ 1) (λ_ _ x=>x)⟩
   grind[intOf]
  .have y:j=l.length:=by omega
   subst y;go_wp2;go_ret;exact⟨rfl,CR.u⟩
def Ew(w:E){o p}{h c}{i b}{l a}(d:l<+:a)(s:w.ownsRow o 9 1 (.slice h l.length i) l.length (strs l))(j:w.ownsRow p 9 1 (.slice c a.length b) a.length (strs a)):
 Calls prog 12 #[.slice h l.length i,.slice c a.length b] w λe t=>e=.returned (.bool true)/\I No w t:=by
 have G:=d.length_le;have n:=O (λu f=>UU u d (A3 s (f:I No w u) (λ_ _ x=>x)) (A3 j f (λ_ _ x=>x)));have m:a.length<=b/\b<=maxLen/\(c=none->a.length=0/\b=0):=by
  obtain⟨z,A⟩|⟨g,v,y,M,D,F,L,H,_⟩:=j.2
  .grind
  .grind
 obtain⟨B,q,_⟩:=m;unfold maxLen at q;go_in;go_wp2_with fail;refine(n.u w (I.refl _ _)).mono ?_;rintro e N ⟨rfl,r⟩;have k:=O r;go_wp2;go_ret;exact⟨rfl,k.u⟩
def sZ(n:Int):Nat:=if n<0\/20000<n then 2000 else n.toNat
def VA(n):sZ n<=20000:=by
 grind[sZ]
def PQ(w:E)(n):Calls prog 9 #[U n] w λe a=>e=.returned (U (sZ n))/\a=w:=by
 have b:∀m:Int,(sZ n:Int)=m->Calls prog 9 #[U n] w λe a=>e=.returned (U m)/\a=w:=by
  intro m f;by_cases c:n<0
  .obtain rfl:m=2000:=by simp_all[sZ,wY]
   go_in;go_wp2;go_ret;exact⟨rfl,rfl⟩
  .by_cases d:20000<n
   .obtain rfl:m=2000:=by simp_all[sZ,wY]
    go_in;go_wp2;go_ret;exact⟨rfl,rfl⟩
   .obtain rfl:m=n:=by grind[sZ]
    go_in;go_wp2;go_ret;exact⟨rfl,rfl⟩
 exact b _ rfl
def nR:List C:=[⟨1,0,0,0,[],[],1,-1,6⟩,⟨1,0,0,0,[],[],2,-1,10⟩,⟨12,0,1,0,[],[43],0,-1,6⟩,⟨21,2,0,0,[],[],0,-1,0⟩,⟨4,0,0,0,[],[],0,-1,26⟩,⟨13,4,0,0,[],[116,121,112,101,111,102],0,-1,19⟩,⟨21,5,0,0,[],[],0,-1,13⟩,⟨26,0,0,0,[3,6],[],0,-1,0⟩]
def pR:List K:=[.nd 21 [] 0 [.nd 12 [43] 0 [.nd 1 [] 1 [],.nd 1 [] 2 []]],.nd 21 [] 0 [.nd 13 [116,121,112,101,111,102] 0 [.nd 4 [] 0 []]]]
def zx:dI [112,114,105,110,116,32,49,32,43,32,50,59,32,112,114,105,110,116,32,116,121,112,101,111,102,32,110,117,108,108,59] (.inr (nR,[])):=WV (by rfl) (λk=>by rfl) (by decide) (by decide)
def Vd:∀p∈pR,Wn p/\17<=p.k/\p.k<=25:=by
 intro p a;simp only[pR,jW,yZ,or_false]at a;obtain rfl|rfl:=a<;>grind[yW,CP,w1,aO,K.k,MF,w4]
def Cn:bH nR [] pR:=⟨Vd,by rfl,by rfl,by decide+kernel,by decide+kernel,by decide,by decide⟩
def Uy:cX [] 0 (.nd 26 [] 0 pR)=.ok [] []:=by rfl
def oR:Of:=[some (.nd 1 [] []),some (.nd 1 [] []),some (.nd 1 [] []),none,some (.nd 4 [] []),some (.nd 3 [] []),none,none]
def Ug:kR (bM nR [] [])=.inr oR:=by rfl
def Uk:iJ (bM nR [] []) oR=[]:=by rfl
theorem Pg:Lib.itoa 3=[51]:=by
 unfold Lib.itoa;grind[Lib.decDigits]
theorem A6e:jY nR (aP (bM nR [] [])) (fW []) 100=some (1,-1,⟨⟨0,0,[],[⟨λ_=>none,none⟩]⟩,93,[[51],[110,117,108,108]],[]⟩):=by
 have h:jY nR (aP (bM nR [] [])) (fW []) 100=some (1,-1,⟨⟨0,0,[],[⟨λ_=>none,none⟩]⟩,93,[Lib.itoa 3,[110,117,108,108]],[]⟩):=by kernel_rfl
 rw[h,Pg]
def sR:ByteArray:=⟨([112,114,105,110,116,32,49,32,43,32,50,59,32,112,114,105,110,116,32,116,121,112,101,111,102,32,110,117,108,108,59]).toArray⟩
def ML:gF sR.data.toList nR [] [] oR:=⟨pR,[],zx,Cn,Uy,Ug⟩
open Go.Proofs.Tryz
open Go.RowKit Go.Maps
def qC(b:Int)(c:Cx)(a:Of):List (Int×Int):=if b=1 then [] else iJ c a
def ES(s)(w)(d:s.size<=maxLen)(f:Tbl w){a}(h:a=1\/a=2){fu:Nat}(e:fu<=100000):Calls prog 8 #[.string s,U a,U fu] w (tX s.data.toList w (jU s.data.toList) (qC a) fu):=by
 refine Yn (λc N T i j b g=>Uz s c d g b) f e (λc _=>Kb s c d h) λN T i j b=>?_;unfold qC;split
 .simp
 .obtain⟨k,l,_⟩:=b.qj;grind
def Et(w)(q:Tbl w):Calls prog 8 #[.string sR,U 2,U 100] w λe b=>Below w.heap.size w b/\∃g a c d,e=.returned (.tuple #[.agg #[.slice (some (J g 0)) 2 a,U 1,U (-1),.slice c 0 d],.agg #[U 0,U 0]])/\g<b.heap.size/\2<=a/\a<=maxLen/\b.cell? (J g 0)=some (.string ⟨([51]).toArray⟩)/\b.cell? (J g 1)=some (.string ⟨([110,117,108,108]).toArray⟩):=by
 refine(ES sR w (by decide) q (.inr rfl) (fu:=100) (by omega)).mono ?_;rintro e b ⟨j,⟨t,p,_,m,rfl⟩|⟨N,T,u,z,s,x,A,v,a,c,d,o,h,rfl,r,y⟩⟩
 .exact absurd m ML.not
 .obtain⟨rfl,rfl,rfl,rfl⟩:=o.one ML;have i:qC 2 (bM nR [] []) oR=[]:=Uk;rw[i,A6e]at h;cases h;obtain⟨g,rfl,_,n,k,l,f⟩:=D4 r (by decide);exact⟨j,g,a,c,d,rfl,n,k,l,f 0 _ rfl,f 1 _ rfl⟩
def TL(w)(f:Tbl w):Calls prog 5 #[] w λe h=>e=.returned (.bool true)/\Below w.heap.size w h:=by
 have c:=O (Et w f);go_in;go_wp2_with fail;refine c.u.mono ?_;rintro e o ⟨a,g,n,i,j,rfl,l,k,d,p,q⟩;have b:=O a;unfold maxLen at d;have m:=a.size;go_wp2;go_ret;exact⟨rfl,(b.u.alloc (by omega) _).alloc (by simp;omega) _⟩
def AB(l:Y)(F:Int->Int->Prop)(h:Cx->Of->List (Int×Int))(g:Nat)(a p e j:Int)(i:List Y)(f:List (Int×Int)):Prop:=
 (a≠0/\F a p)\/(a=0/\p=0/\∃N T b d c,gF l N T b d/\jY N (aP (bM N T b)) (fW (h (bM N T b) d)) g=some (e,j,c)/\i=c.ln/\f=c.ev)
def Js(l:Y)(w:E)(F:Int->Int->Prop)(n:Cx->Of->List (Int×Int))(m:Nat)(e:Ending)(c:E):Prop:=Below w.heap.size w c/\∃h p g k b a i j d f,AB l F n m h p g k b a/\e=.returned (.tuple #[.agg #[.slice i b.length j,U g,U k,.slice d a.length f],.agg #[U h,U p]])/\
 c.ownsRow w.heap.size 9 1 (.slice i b.length j) b.length (strs b)/\c.ownsRow w.heap.size 40 2 (.slice d a.length f) a.length (jN a)
def tX.qd{l}{w}{F}{c}{b}{e}{f}(h:tX l w F c b e f):Js l w F c b e f:=by
 obtain⟨d,⟨k,p,m,n,rfl⟩|⟨N,T,r,y,j,u,a,s,t,g,i,o,q,rfl,v,x⟩⟩:=h
 .exact⟨d,k,p,0,0,[],[],none,0,none,0,.inl ⟨m,n⟩,rfl,kW _ _ _ _,kW _ _ _ _⟩
 .exact⟨d,0,0,j,u,a.ln,a.ev,s,t,g,i,.inr ⟨rfl,rfl,N,T,r,y,a,o,q,rfl,rfl⟩,rfl,v,x⟩
def Nz(k:E)(n:Nat)(i p h j:Int)(c:List Y)(b:List (Int×Int))(f:Option Addr)(g:Nat)(d:Option Addr)(e:Nat)(B:Nat):Prop:=∀a,I No k a->a.cell? (J n 0)=some (.slice f c.length g)/\a.cell? (J n 1)=some (U h)/\a.cell? (J n 2)=some (U j)/\a.cell? (J n 3)=some (.slice d b.length e)/\a.cell? (J (n+1) 0)=some (U i)/\a.cell? (J (n+1) 1)=some (U p)/\n+1<a.heap.size/\
 a.ownsRow B 9 1 (.slice f c.length g) c.length (strs c)/\a.ownsRow B 40 2 (.slice d b.length e) b.length (jN b)
def JN{w:E}{er p en nd}{c}{b}{f}{g}{d}{e B}(r:w.ownsRow B 9 1 (.slice f c.length g) c.length (strs c))(s:w.ownsRow B 40 2 (.slice d b.length e) b.length (jN b)):
 Nz ((w.alloc (.cells #[.slice f c.length g,U en,U nd,.slice d b.length e] 32)).alloc (.cells #[U er,U p] 26)) w.heap.size er p en nd c b f g d e B:=λa l=>by
 have m:=I.alloc No w (.cells #[.slice f c.length g,U en,U nd,.slice d b.length e] 32);have k:=yY w (.cells #[.slice f c.length g,U en,U nd,.slice d b.length e] 32);have q:=World.size_alloc w (.cells #[.slice f c.length g,U en,U nd,.slice d b.length e] 32);generalize w.alloc (.cells #[.slice f c.length g,U en,U nd,.slice d b.length e] 32)=u at*;have j:=B6 (I.alloc No u (.cells #[U er,U p] 26)) l;have o:=(aI k);have n:=yY u (.cells #[U er,U p] 26);have h:=(j.block _ o (λx=>x)).trans k;have i:=(l.block _ (by simp) (λx=>x)).trans n;rw[q]at i;exact⟨(cell_of_row _ _ 0 _ _ _ h).trans rfl,(cell_of_row _ _ 1 _ _ _ h).trans rfl,(cell_of_row _ _ 2 _ _ _ h).trans rfl,(cell_of_row _ _ 3 _ _ _ h).trans rfl,(cell_of_row _ _ 0 _ _ _ i).trans rfl,(cell_of_row _ _ 1 _ _ _ i).trans rfl,(aI i),A3 r (B6 m j) (λ_ _ x=>x),A3 s (B6 m j) (λ_ _ x=>x)⟩
def OU{w a:E}(h:Below w.heap.size w a):I No w a:=(I.below h).mono λ_ b x=>by omega
def Er(w:E):Calls prog 6 #[] w λe f=>e=.returned (.bool true)/\Below w.heap.size w f:=by
 have c:=O (Ru w);go_in;go_wp2_with fail;refine c.u.mono ?_;rintro e l ⟨a,g,h,rfl,j,i,d,m,n⟩;have b:=O a;unfold maxLen at d;have k:=a.size;go_wp2;go_ret;exact⟨rfl,b.u.alloc (by omega) _⟩
