/-
  A part of the proof.
-/
import Derived.Test.YteocidgdmjaffaaGreatDoorShelf
import Derived.Test.YteocidgdmjaffaaGreatDoorWho
set_option maxHeartbeats 0
set_option linter.all false
set_option maxRecDepth 100000
namespace Go.Proofs.YteocidgdmjaffaaGreatDoor
open Go.Proofs.Tryz
open Go.RowKit
def nZ{W a:E}(c:Below W.heap.size W a):(∀b o,b<W.heap.size->a.cell? (J b o)=W.cell? (J b o))/\(∀b o,b<W.heap.size->a.frozen? (J b o)=W.frozen? (J b o)):=
 ⟨λb o h=>c.cell h,λb o h=>c.frozen h⟩
def pH{w a:E}{o}(b:Below (w.alloc o).heap.size (w.alloc o) a)(c d e):
 Below w.heap.size w (((a.setCell (J w.heap.size 0) c).setCell (J w.heap.size 1) d).setCell (J w.heap.size 2) e):=
 (((((Below.refl _ _).alloc (vQ _) o).trans (b.mono (by simp))).setCell (by simp) _).setCell (by simp) _).setCell (by simp) _
theorem zI(s:ByteArray)(a):(s.extract a s.size).data.toList=s.data.toList.drop a:=by
 grind[ByteArray.data_extract,Array.toList_extract,List.extract_eq_take_drop,bl,List.take_of_length_le,List.length_drop]
def Oi(s)(w:E)(c:s.size<=4000):Calls prog 189 #[.string s] w λe a=>e=.returned (.string s)/\Below w.heap.size w a:=by
 go_in;go_wp2_with (go_at_call 221;refine(Tryz.stringslite_Clone _ _ (by omega)).mono ?_;rintro e a ⟨rfl,b⟩);go_ret;exact⟨rfl,b⟩
def AJ(k)(s)(w:E)(c:s.size<=4000):Calls prog 151 #[U k,.string s] w λe d=>e=.returned (.agg #[U k,.string s,U 0])/\Below w.heap.size w d:=by
 go_in;go_wp2_with fail;refine(Oi _ _ c).mono ?_;rintro e f ⟨rfl,a⟩;obtain⟨b,g⟩:=nZ a;have h:w.heap.size<f.heap.size:=by have:=a.size;simp at this;omega
 go_wp2;exact bodyPost_ret (by simp[results,results151,go_sem,b]) rfl ⟨rfl,pH a _ _ _⟩
def TJ(s)(a:Nat)(w:E)(f:s.size<=4000)(d:a<=s.size):Calls prog 63 #[.string s,U a] w λe b=>e=.returned (U (a+sp blank (s.data.toList.drop a):Nat))/\b=w:=by
 go_in;go_wp2_with fail;refine(Gj _ _ ?_).mono ?_
 .simp[maxLen];omega
 .rintro e b ⟨rfl,rfl⟩;have c:=mI blank (s.data.toList.drop a);rw[List.length_drop,bl]at c;rw[zI s a];go_wp2;go_ret;exact⟨J5 (by omega),rfl⟩
def Bw(s)(w:E):Calls prog 153 #[.string s] w λe a=>e=.returned (.bool (pL s.data.toList))/\a=w:=by
 go_in;go_wp2;all_goals first|(exfalso;simp_all;done)|skip
 all_goals go_ret
 all_goals refine⟨E7 ?_,rfl⟩
 all_goals simp[pL,has,RH,<-ByteArray.toList_eq]
 all_goals simp_all
def Xm(l)(a:List Y)(k)(h):L0 l (a.take (k+1))=if a[k].isPrefixOf l then max (L0 l (a.take k)) a[k].length else L0 l (a.take k):=by
 grind[nQ,L0]
def Cj(l:Y):∀(a:List Y) (m),(∀g∈a,g.length<=2)->m<=2->a.foldl (λm g=>if g.isPrefixOf l then max m g.length else m) m<=2
 |[],m,_,b=>b
 |g::r,m,h,b=>by
  simp only[List.foldl_cons];refine Cj l r _ (λx c=>h x (List.mem_cons_of_mem _ c)) ?_;grind
def Lb(s)(g c)(a)(w:E)(p:a.length<=100)(l:∀x∈a,x.length<=2)
 (f:∀i (h),w.cell? (J g i)=some (.string ⟨a[i].toArray⟩)):
 Calls prog 156 #[.string s,.slice (some (J g 0)) a.length c] w λe b=>e=.returned (U (L0 s.data.toList a))/\b=w:=by
 go_in;go_wp2;go_loop [5,10] (λz i=>∃k:Nat,k<=a.length/\i=U k/\z=U (L0 s.data.toList (a.take k))) (λ_ i=>a.length-(intOf i).toNat);case atStart=>exact⟨0,wQ _,rfl,rfl⟩
 case round=>
  obtain⟨k,o,rfl,rfl⟩:=hrel;by_cases j:k<a.length
  .have n:=f k j;have d:Hid (L0 s.data.toList (a.take (k+1))=if a[k].isPrefixOf s.data.toList then max (L0 s.data.toList (a.take k)) a[k].length else L0 s.data.toList (a.take k)):=Xm _ _ _ j;clear f l;generalize L0 s.data.toList (a.take k)=m at*;generalize a[k]=x at*;cases q:Lib.hasPrefix s.data.toList x
   .go_wp2_with (go_at_call 155;refine(Tryz.strings_HasPrefix _ _ _).mono ?_;rintro e b ⟨rfl,rfl⟩);go_round;case rel=>exact⟨k+1,by omega,by go_num,by rw[d.u,zY (by grind[Lib.hasPrefix])]⟩
    grind[intOf]
   .go_wp2_with (go_at_call 155;refine(Tryz.strings_HasPrefix _ _ _).mono ?_;rintro e b ⟨rfl,rfl⟩);go_round;case rel=>exact⟨k+1,by omega,by go_num,by rw[d.u,wY (by grind[Lib.hasPrefix])];grind⟩
    grind[intOf]
  .go_wp2;go_ret;exact⟨J5 (by grind),rfl⟩
def res(r:Int×Y×Nat):Value:=.tuple #[.agg #[U r.1,.string ⟨r.2.1.toArray⟩,U 0],U r.2.2]
theorem RM(s:ByteArray)(h):s.data.toList.head?=some s[0]:=by
 rw[List.head?_eq_getElem?,gQ (by simp_all)];rfl
def wV{r}{k}{t}{n:Nat}{x}(h:r=(k,t,n))(a:x=⟨t.toArray⟩):
 Ending.returned (.tuple #[.agg #[U k,.string x,U 0],U n])=.returned (res r):=by subst h;subst a;rfl
def uC{r:Int×Y×Nat}(h:r=(0,[],0)):
 Ending.returned (.tuple #[.agg #[U 0,.string ⟨#[]⟩,U 0],U 0])=.returned (res r):=by subst h;rfl
theorem xJ(s:ByteArray)(n):s.extract 0 n=⟨(s.data.toList.take n).toArray⟩:=by grind[Lib.extract_eq]
def Ol(s:ByteArray)(n):s.extract 1 (1+n)=⟨(s.data.toList.tail.take n).toArray⟩:=by grind[Lib.extract_eq,List.drop_one]
theorem uX(s:ByteArray)(a b):(s.extract a b).size<=s.size:=by grind[ByteArray.size_extract]
theorem Ll(c)(n:Nat)(h:n<256):c=UInt8.ofNat n↔c.toNat=n:=by
 constructor
 .simp_all
 .intro e;apply UInt8.toNat_inj.1;simp;omega
def Dh(s)(w:E)(h:s.size<=4000)(d:0<s.size):Calls prog 104 #[.string s] w λe i=>e=.returned (res (nK s.data.toList))/\Below w.heap.size w i:=by
 have g:=mI eO s.data.toList;rw[bl]at g;have b:Hid (nK s.data.toList=if 9<sp eO s.data.toList\/s[0].toNat=48/\1<sp eO s.data.toList then (0,[],0) else (3,s.data.toList.take (sp eO s.data.toList),sp eO s.data.toList)):=by
  show _=_;rw[nK,RM s d];simp;simp only[show (s[0]=48↔s[0].toNat=48) from Ll _ 48 (by omega)]
 generalize nK s.data.toList=r at*;go_in;go_wp2_with fail;refine(Gl _ _ (by grind[maxLen])).mono ?_;rintro e c ⟨rfl,rfl⟩;generalize sp eO s.data.toList=n at*;go_wp2_with fail
 .exact bodyPost_ret (by simp[results,results104,go_sem]) rfl ⟨uC (by rw[b.u,wY (by omega)]),(Below.refl _ _).alloc (vQ _) _⟩
 all_goals first|exact bodyPost_ret (by simp[results,results104,go_sem]) rfl ⟨uC (by rw[b.u,wY (by omega)]),(Below.refl _ _).alloc (vQ _) _⟩|skip
 all_goals
  refine(AJ _ _ _ (kQ (uX _ _ _) h)).mono ?_;rintro e c ⟨rfl,a⟩;obtain⟨f,j⟩:=nZ a;have k:w.heap.size<c.heap.size:=by have:=a.size;simp at this;omega
  go_wp2;exact bodyPost_ret (v:=.tuple #[.agg #[U 3,.string (s.extract 0 n),U 0],U n]) (by simp[results,results104,go_sem,f]) rfl ⟨wV (by rw[b.u,zY (by omega)]) (xJ _ _),pH a _ _ _⟩
def Dr(s)(w:E)(i:s.size<=4000):Calls prog 106 #[.string s] w λe j=>e=.returned (res (name s.data.toList))/\Below w.heap.size w j:=by
 have h:=mI gB s.data.toList;rw[bl]at h;have b:Hid (name s.data.toList=if 20<sp gB s.data.toList then (0,[],0) else (if pL (s.data.toList.take (sp gB s.data.toList)) then 2 else 1,s.data.toList.take (sp gB s.data.toList),sp gB s.data.toList)):=rfl;generalize name s.data.toList=r at*;go_in;go_wp2_with fail;refine(Gp _ _ (by grind[maxLen])).mono ?_;rintro e c ⟨rfl,rfl⟩;generalize sp gB s.data.toList=n at*;by_cases l:20<n
 .go_wp2;exact bodyPost_ret (by simp[results,results106,go_sem]) rfl ⟨uC (by rw[b.u,wY (by omega)]),(Below.refl _ _).alloc (vQ _) _⟩
 .go_wp2_with fail;refine(Bw _ _).mono ?_;rintro e c ⟨rfl,rfl⟩;have g:Hid (pL (s.extract 0 n).data.toList=pL (s.data.toList.take n)):=by show _=_;rw[xJ]
  cases f:pL (s.extract 0 n).data.toList;all_goals
   go_wp2_with fail;refine(AJ _ _ _ (kQ (uX _ _ _) i)).mono ?_;rintro e c ⟨rfl,a⟩;obtain⟨d,k⟩:=nZ a;have m:w.heap.size<c.heap.size:=by have:=a.size;simp at this;omega
   go_wp2
  .exact bodyPost_ret (v:=.tuple #[.agg #[U 1,.string (s.extract 0 n),U 0],U n]) (by simp[results,results106,go_sem,d]) rfl ⟨wV (by rw[b.u,zY (by omega),<-g.u,f];rfl) (xJ _ _),pH a _ _ _⟩
  .exact bodyPost_ret (v:=.tuple #[.agg #[U 2,.string (s.extract 0 n),U 0],U n]) (by simp[results,results106,go_sem,d]) rfl ⟨wV (by rw[b.u,zY (by omega),<-g.u,f];rfl) (xJ _ _),pH a _ _ _⟩
def Uq(l:Y):Lib.hasPrefix l [34]=true↔l.head?=some 34:=by
 cases l<;>grind[Lib.hasPrefix,List.isPrefixOf]
def Jq(s)(w:E)(k:s.size<=4000)(m:0<s.size):Calls prog 107 #[.string s] w λe l=>e=.returned (res (text s.data.toList))/\Below w.heap.size w l:=by
 have i:=mI gH s.data.toList.tail;rw[List.length_tail,bl]at i;have b:Hid (text s.data.toList=if 30<sp gH s.data.toList.tail\/(s.data.toList.tail.drop (sp gH s.data.toList.tail)).head?≠some 34 then (0,[],0) else (4,s.data.toList.tail.take (sp gH s.data.toList.tail),sp gH s.data.toList.tail+2)):=rfl;have g:Hid ((s.extract 1 s.size).data.toList=s.data.toList.tail):=by show _=_;rw[zI,List.drop_one]
 generalize text s.data.toList=r at*;go_in;go_wp2_with fail;refine(Gv _ _ (by grind[maxLen,uX])).mono ?_;rintro e c ⟨rfl,rfl⟩;rw[g.u];generalize q:sp gH s.data.toList.tail=n at*;by_cases p:30<n
 .go_wp2;exact bodyPost_ret (by simp[results,results107,go_sem]) rfl ⟨uC (by rw[b.u,wY (by omega)]),(Below.refl _ _).alloc (vQ _) _⟩
 .go_wp2_with fail;refine(Tryz.strings_HasPrefix _ _ _).mono ?_;rintro e c ⟨rfl,rfl⟩;have d:Hid (Lib.hasPrefix (s.extract (1+n) s.size).data.toList (ByteArray.mk #[34]).data.toList=true↔(s.data.toList.tail.drop n).head?=some 34):=by
   rw[zI,<-List.drop_one,List.drop_drop];exact Uq _
  cases j:Lib.hasPrefix (s.extract (1+n) s.size).data.toList (ByteArray.mk #[34]).data.toList
  .go_wp2;exact bodyPost_ret (by simp[results,results107,go_sem]) rfl ⟨uC (by rw[b.u,wY (Or.inr (λh=>by have:=d.u.2 h;grind))]),(Below.refl _ _).alloc (vQ _) _⟩
  .go_wp2_with fail;refine(AJ _ _ _ (kQ (uX _ _ _) k)).mono ?_;rintro e c ⟨rfl,a⟩;obtain⟨f,o⟩:=nZ a;have t:w.heap.size<c.heap.size:=by have:=a.size;simp at this;omega
   go_wp2;exact bodyPost_ret (v:=.tuple #[.agg #[U 4,.string (s.extract 1 (1+n)),U 0],U ((n+2:Nat):Int)]) (by simp[results,results107,go_sem,f]) rfl ⟨wV (by rw[b.u,zY (λh=>h.elim (λh=>by omega) (λh=>h (d.u.1 j)))]) (Ol _ _),pH a _ _ _⟩
def gI(l:Y):∀(b:List Y) (m),m<=l.length->b.foldl (λm g=>if g.isPrefixOf l then max m g.length else m) m<=l.length
 |[],m,a=>a
 |g::r,m,a=>by
  simp only[List.foldl_cons];refine gI l r _ ?_;grind
def PD{w:E}(a b):Below w.heap.size w ((w.alloc a).alloc b):=((Below.refl _ _).alloc (vQ _) a).alloc (by simp) b
def Ku{w b:E}{o a}(c:Below ((w.alloc o).alloc a).heap.size ((w.alloc o).alloc a) b)(d e f):
 Below w.heap.size w (((b.setCell (J w.heap.size 0) d).setCell (J w.heap.size 1) e).setCell (J w.heap.size 2) f):=
 ((((PD o a).trans (c.mono (by simp;omega))).setCell (by simp) _).setCell (by simp) _).setCell (by simp) _
theorem Gb(w:E)(i)(h):(w.alloc (.cells #[.string ⟨#[61,61]⟩,.string ⟨#[61,62]⟩,.string ⟨#[40]⟩,.string ⟨#[41]⟩,.string ⟨#[123]⟩,.string ⟨#[125]⟩,.string ⟨#[91]⟩,.string ⟨#[93]⟩,.string ⟨#[44]⟩,.string ⟨#[59]⟩,.string ⟨#[58]⟩,.string ⟨#[46]⟩,.string ⟨#[61]⟩,.string ⟨#[60]⟩,.string ⟨#[43]⟩,.string ⟨#[45]⟩,.string ⟨#[42]⟩,.string ⟨#[33]⟩,.string ⟨#[124]⟩] 9)).cell? (J w.heap.size i)=some (.string ⟨lO[i].toArray⟩):=by
 rw[cell_of_row _ _ _ _ _ _ (yY w _)];have a:i<19:=h;have:i=0\/i=1\/i=2\/i=3\/i=4\/i=5\/i=6\/i=7\/i=8\/i=9\/i=10\/i=11\/i=12\/i=13\/i=14\/i=15\/i=16\/i=17\/i=18:=by omega
 obtain rfl|rfl|rfl|rfl|rfl|rfl|rfl|rfl|rfl|rfl|rfl|rfl|rfl|rfl|rfl|rfl|rfl|rfl|rfl:=this<;>rfl
def Ja(s)(w:E)(j:s.size<=4000):Calls prog 108 #[.string s] w λe k=>e=.returned (res (oJ s.data.toList))/\Below w.heap.size w k:=by
 have m:L0 s.data.toList lO<=s.size:=by have:=gI s.data.toList lO 0 (by omega);rw[bl]at this;exact this
 have c:Hid (oJ s.data.toList=if L0 s.data.toList lO=0 then (0,[],0) else (5,s.data.toList.take (L0 s.data.toList lO),L0 s.data.toList lO)):=rfl;generalize oJ s.data.toList=r at*;go_in;go_wp2_with fail;refine(Lb s (w.heap.size+1) 19 lO _ (by decide) (by decide) (λi h=>by grind[Gb,World.size_alloc])).mono ?_;rintro e d ⟨rfl,rfl⟩;generalize L0 s.data.toList lO=n at*;by_cases b:n=0
 .subst b;go_wp2;exact bodyPost_ret (by simp[results,results108,go_sem]) rfl ⟨uC (by rw[c.u];simp),PD _ _⟩
 .have p:((n:Int)==0)=false:=by simp;omega
  go_wp2_with fail;refine(AJ _ _ _ (kQ (uX _ _ _) j)).mono ?_;rintro e d ⟨rfl,a⟩;obtain⟨f,l⟩:=nZ a;have q:w.heap.size+1<d.heap.size:=by have:=a.size;simp at this;omega
  go_wp2;have g:=λo=>f w.heap.size o (by simp;omega);exact bodyPost_ret (v:=.tuple #[.agg #[U 5,.string (s.extract 0 n),U 0],U n]) (by simp[results,results108,go_sem,g]) rfl ⟨wV (by rw[c.u,zY b]) (xJ _ _),Ku a _ _ _⟩
def Pf(s)(w:E)(h:s.size<=4000)(i:0<s.size):Calls prog 64 #[.string s] w λe c=>e=.returned (res (aV s.data.toList))/\Below w.heap.size w c:=by
 have b:Hid (aV s.data.toList=if eO s[0].toNat then nK s.data.toList else if gP s[0].toNat then name s.data.toList else if s[0].toNat=34 then text s.data.toList else oJ s.data.toList):=by
  show _=_;rw[aV,RM s i]
 generalize aV s.data.toList=r at*;cases g:eO s[0].toNat
 .cases m:gP s[0].toNat
  .by_cases j:s[0].toNat=34
   .rw[g,m,zY (by simp),zY (by simp),wY j]at b;have p:(((s[0].toNat:Nat):Int)==34)=true:=by rw[j];rfl
    go_in;go_wp2_with (first|(go_at_call 103;refine(U6 _ _).mono ?_;rintro e c ⟨rfl,rfl⟩)|(go_at_call 105;refine(CK _ _).mono ?_;rintro e c ⟨rfl,rfl⟩));refine(Jq _ _ h i).mono ?_;rintro e f ⟨rfl,a⟩;rw[<-b.u];unfold res;obtain⟨k,t,n⟩:=r;obtain⟨d,l⟩:=nZ a;have o:w.heap.size<f.heap.size:=by have:=a.size;simp at this;omega
    go_wp2;exact bodyPost_ret (by simp[results,results64,go_sem,d,res]) rfl ⟨rfl,pH a _ _ _⟩
   .rw[g,m,zY (by simp),zY (by simp),zY j]at b;have p:(((s[0].toNat:Nat):Int)==34)=false:=by simp;omega
    go_in;go_wp2_with (first|(go_at_call 103;refine(U6 _ _).mono ?_;rintro e c ⟨rfl,rfl⟩)|(go_at_call 105;refine(CK _ _).mono ?_;rintro e c ⟨rfl,rfl⟩));refine(Ja _ _ h).mono ?_;rintro e f ⟨rfl,a⟩;rw[<-b.u];unfold res;obtain⟨k,t,n⟩:=r;obtain⟨d,l⟩:=nZ a;have o:w.heap.size<f.heap.size:=by have:=a.size;simp at this;omega
    go_wp2;exact bodyPost_ret (by simp[results,results64,go_sem,d,res]) rfl ⟨rfl,pH a _ _ _⟩
  .rw[g,m,zY (by simp),wY rfl]at b;go_in;go_wp2_with (first|(go_at_call 103;refine(U6 _ _).mono ?_;rintro e c ⟨rfl,rfl⟩)|(go_at_call 105;refine(CK _ _).mono ?_;rintro e c ⟨rfl,rfl⟩));refine(Dr _ _ h).mono ?_;rintro e f ⟨rfl,a⟩;rw[<-b.u];unfold res;obtain⟨k,t,n⟩:=r;obtain⟨d,l⟩:=nZ a;have o:w.heap.size<f.heap.size:=by have:=a.size;simp at this;omega
   go_wp2;exact bodyPost_ret (by simp[results,results64,go_sem,d,res]) rfl ⟨rfl,pH a _ _ _⟩
 .rw[g,wY rfl]at b;go_in;go_wp2_with (go_at_call 103;refine(U6 _ _).mono ?_;rintro e c ⟨rfl,rfl⟩);refine(Dh _ _ h i).mono ?_;rintro e f ⟨rfl,a⟩;rw[<-b.u];unfold res;obtain⟨k,t,n⟩:=r;obtain⟨d,l⟩:=nZ a;have o:w.heap.size<f.heap.size:=by have:=a.size;simp at this;omega
  go_wp2;exact bodyPost_ret (by simp[results,results64,go_sem,d,res]) rfl ⟨rfl,pH a _ _ _⟩
def Tryz.lr:(prog.info? 130).map (λi=>(i.zero,i.size,i.bytes))=some (some (.agg #[U 0,.string ⟨#[]⟩,U 0]),3,32):=by kernel_rfl
def LV(R:List Tk×Int×Nat)(w:E)(e:Ending)(b:E):Prop:=
 ∃a c,e=.returned (.tuple #[.slice a R.1.length c,.agg #[U R.2.1,U R.2.2]])/\b.ownsRow w.heap.size 130 3 (.slice a R.1.length c) R.1.length (rows R.1)/\Below w.heap.size w b
def Yk{w:E}{a b}{e}{d}{v}{n}{f}(h:w.ownsRow a e d v n f)(j:b<=a):w.ownsRow b e d v n f:=by
 obtain⟨i,c⟩:=h;refine⟨i,?_⟩;obtain c|⟨g,cap,cur,hv,hg,r⟩:=c
 .grind
 .exact .inr ⟨g,cap,cur,hv,kQ j hg,r⟩
def TF{w:E}{b}{e}{d}{v}{n}{f}(h:w.ownsRow b e d v n f):∃a c,v=.slice a n c:=by
 obtain⟨rfl,rfl⟩|⟨g,i,j,k,_⟩:=h.2<;>grind
def FZ{w b:E}(e)(a)(c:Below w.heap.size w b):LV ([],e,a) w (.returned (.tuple #[sN,.agg #[U e,U a]])) b:=
 ⟨none,0,rfl,kW _ _ _ _,c⟩
def SK{w wr:E}{a}{t}(h:Below (w.heap.size+1) (w.alloc (.cells a t)) wr):
 (∀o v,a[o]?=some v->wr.cell? (J w.heap.size o)=some v)/\(∀o,wr.frozen? (J w.heap.size o)=false)/\w.heap.size<wr.heap.size:=by
 refine⟨λo v b=>?_,λo=>?_,?_⟩
 .rw[h.cell (by simp),World.cell?_alloc_new,b]
 .rw[h.frozen (by simp)];simp
 .have:=h.size;simp at this;omega
def PN{w wr e:E}{o h}(g:Below (w.heap.size+1) (w.alloc o) wr)(f:Below wr.heap.size wr e)(c d):
 Below w.heap.size w (((e.setCell (J w.heap.size 0) c).setCell (J w.heap.size 1) d).alloc h):=by
 have a:=((Below.refl _ _).alloc (vQ _) o).trans (g.mono (by omega));have b:=((a.trans (f.mono a.size)).setCell (p:=(J w.heap.size 0)) (by simp) c).setCell (p:=(J w.heap.size 1)) (by simp) d;exact b.alloc b.size _
def yd{w d:E}{b}{e}{c}{v}{n}{f}(h:w.ownsRow b e c v n f)(a:Below w.heap.size w d):d.ownsRow b e c v n f:=
 h.kept (row:=none) ⟨a.os,a.tape,a.output,a.size,λk g _=>a.block k g⟩ (by grind)
theorem A2b(w:E)(o)(x y z)(t):∀j u,[x,y,z][j]?=some u->((w.alloc o).alloc (.cells #[x,y,z] t)).cell? (((J (w.heap.size+1) 0)).add j)=some u:=by
 intro j u b;have a:((J (w.heap.size+1) 0):Addr).add j=(J (w.heap.size+1) j):=by unfold Addr.add;split<;>simp_all
 simp_all
theorem A1b(w:E)(x y z)(t):∀j u,[x,y,z][j]?=some u->(w.alloc (.cells #[x,y,z] t)).cell? (((J w.heap.size 0)).add j)=some u:=by
 intro j u b;have a:((J w.heap.size 0):Addr).add j=(J w.heap.size j):=by unfold Addr.add;split<;>simp_all
 simp_all
def SV{e:E}{d n}{b}{c}{a}{t}(h:e.ownsRow d 130 3 (.slice b n c) n (rows a++[U t.x,.string ⟨t.text.toArray⟩,U t.at'])):
 e.ownsRow d 130 3 (.slice b n c) n (rows (a++[t])):=by rw[Ux];exact h
def kA{w wr c:E}{o b}{v}{n}{h}(a:Below (w.heap.size+1) (w.alloc o) wr)(f:wr.ownsRow (w.heap.size+1) 130 3 v n h)
 (d:(wr.alloc b).grownBy c v.ownBlock):Below (w.heap.size+1) (w.alloc o) c:=by
 have g:w.heap.size+1<=wr.heap.size:=by have:=a.size;simpa using this
 exact(a.alloc g b).grown d (by simp;omega) (λk e=>(f.lt k e).1)
def Uu{w wr f g:E}{o d e}{v}{n}{p}(b:Below (w.heap.size+1) (w.alloc o) wr)(a:Below wr.heap.size wr f)(l:wr.ownsRow (w.heap.size+1) 130 3 v n p)
 (i:((f.alloc d).alloc e).grownBy g v.ownBlock):Below (w.heap.size+1) (w.alloc o) g:=by
 have c:w.heap.size+1<=wr.heap.size:=by have:=b.size;simpa using this
 have h:=b.trans (a.mono c);have m:=kQ c a.size;exact((h.alloc m d).alloc (by simp;omega) e).grown i (by simp;omega) (λk j=>(l.lt k j).1)
def Zh{w d:E}{o}{b}{c n}{a}{L}(h:d.ownsRow (w.heap.size+1) 130 3 (.slice b (a.length+1) c) (a.length+1) (rows (a++[⟨6,[],L⟩])))
 (g:Below (w.heap.size+1) (w.alloc o) d) (e f):LV (a++[⟨6,[],L⟩],0,n) w (.returned (.tuple #[.slice b (a.length+1) c,.agg #[U 0,U n]])) ((d.setCell (J w.heap.size 0) e).setCell (J w.heap.size 1) f):=by
 refine⟨b,c,by simp,?_,((((Below.refl _ _).alloc (vQ _) o).trans (g.mono (by omega))).setCell (by simp) _).setCell (by simp) _⟩;have:=Yk (ownsRow_setCell_below (ownsRow_setCell_below h (a:=(J w.heap.size 0)) (by simp) e) (a:=(J w.heap.size 1)) (by simp) f) (Nat.le_succ _);grind
def Iw(s)(w:E)(hs:s.size<=maxLen):Calls prog 36 #[.string s] w (LV (M8 s.data.toList) w):=by
 have l:Hid (M8 s.data.toList=if 4000<s.size then ([],2,0) else Q7 (s.size+1) s.data.toList 0 []):=by show _=_;unfold M8;rw[bl]
 generalize M8 s.data.toList=a8 at*;unfold maxLen at hs;by_cases aj:4000<s.size
 .go_in;go_wp2;rw[l.u,wY (by omega)];exact bodyPost_ret (by simp[results,results36,go_sem]) rfl (FZ 2 0 ((Below.refl _ _).alloc (vQ _) _))
 .rw[zY (by omega)]at l;go_in;go_wp2_with fail;refine(TJ s 0 _ (by omega) (by omega)).mono ?_;rintro a2 a7 ⟨rfl,rfl⟩;have aa:=mI blank (s.data.toList.drop 0);rw[List.length_drop,bl]at aa;have al:0+sp blank (s.data.toList.drop 0)<=s.size:=by omega
  rw[NQ]at l;have h0:Hid (sp blank (s.data.toList.drop (0+sp blank (s.data.toList.drop 0)))=0):=by
   have a3:=zS blank (s.data.toList.drop 0);rw[List.drop_drop]at a3;exact a3
  generalize 0+sp blank (s.data.toList.drop 0)=a at*;go_wp2;go_loopw [4,5] (λah i wr=>∃(a f:Nat) (b:List Tk) (G:Option Addr) (c:Nat),a<=s.size/\i=U a/\Hid (sp blank (s.data.toList.drop a)=0)/\s.size-a<f+1/\Hid (a8=Q7 (f+1) s.data.toList a b)/\b.length<=1000/\ah=.slice G b.length c/\
   Hid (wr.ownsRow (w.heap.size+1) 130 3 (.slice G b.length c) b.length (rows b))/\Hid (Below (w.heap.size+1) (w.alloc (Obj.cells #[Value.int IntKind.i64 0,Value.int IntKind.i64 0] 26)) wr)) (λ_ i _=>s.size-(intOf i).toNat);case atStart=>exact⟨a,s.size,[],none,0,by omega,rfl,h0,by omega,l,by simp,rfl,kW _ _ _ _,Below.refl _ _⟩
  case round=>
   obtain⟨a,f,b,G,c,ha,rfl,x,hf,l,ai,rfl,m,h⟩:=hrel;have e:=l.u;rw[TB _ _ _ _ x.u,bl]at e;obtain⟨j,a6,o⟩:=SK h.u;by_cases am:a<s.size
   .rw[zY (by omega)]at e;go_wp2_with fail;refine(Pf _ _ (kQ (uX _ _ _) (by omega)) (by rw[ByteArray.size_extract];omega)).mono ?_;rintro a2 a7 ⟨rfl,M⟩;rw[zI];have a4:=QW (s.data.toList.drop a);rw[List.length_drop,bl]at a4;generalize aV (s.data.toList.drop a)=af at*;obtain⟨k,t,n⟩:=af;simp only at e a4;unfold res;have D:=O e;obtain⟨hc,ak⟩:=nZ M;have A:=(hc _ _ o).trans (j 0 _ rfl);have B:=(hc _ _ o).trans (j 1 _ rfl);have P:=yQ o M.size;have p:=O M;by_cases hn:n=0
    .subst hn;go_wp2_with fail;rw[D.u,wY (by simp)];exact bodyPost_ret (v:=.tuple #[sN,.agg #[U 1,U (a:Int)]]) (by simp[results,results36,go_sem,A,B,P]) rfl (FZ 1 a (PN h.u p.u _ _))
    .have ao:((n:Int)==0)=false:=by simp;omega
     have F:=D.u;rw[zY hn]at F;have g:=O F;clear F D;by_cases y:b.length=1000
     .have ab:((b.length:Int)==1000)=true:=by simp;omega
      rw[wY y]at g;clear y;go_wp2_with fail;rw[g.u];exact bodyPost_ret (v:=.tuple #[sN,.agg #[U 2,U (a:Int)]]) (by simp[results,results36,go_sem,A,B,P]) rfl (FZ 2 a (PN h.u p.u _ _))
     .have ab:((b.length:Int)==1000)=false:=by simp;omega
      rw[zY y]at g;have an:b.length<1000:=by omega
      clear y;obtain⟨V,N,R,S,T⟩:=info_parts Tryz.lr;have a5:=(yd m.u p.u).alloc (.cells #[Value.int IntKind.i64 k,Value.string {data:=t.toArray},Value.int IntKind.i64 (a:Int)] 130);have u:=O (a5.alloc (.cells #[Value.int IntKind.i64 k,Value.string {data:=t.toArray},Value.int IntKind.i64 (a:Int)] 130));clear a5;go_wp2_with (at_builtin;refine wpList_append_own _ rfl _ _ 98 rfl (w.heap.size+1) 130 V (.agg #[U 0,.string ⟨#[]⟩,U 0]) 3 32 underlying98 N R S T rfl (by decide) _ _ _ rfl u.u (J (a7.heap.size+1) 0) 1 1 [U k,.string ⟨t.toArray⟩,U (a:Int)] rfl rfl ?c1 ?c2 ?c3 ?c4 ?c5 ?_);case c1=>simp_all[A2b]
      case c2=>intro ag r;simp at r;obtain rfl|rfl|rfl:=r<;>rfl
      case c3=>simp only[maxLen];omega
      case c4=>omega
      case c5=>simp;omega
      .intro v' W d q _;obtain⟨H,c2,z⟩:=TF d;rw[z]at d⊢;obtain⟨L,rfl⟩:∃L,f=L+1:=⟨f-1,by omega⟩;rw[NQ]at g;have ac:=mI blank (s.data.toList.drop (a+n));rw[List.length_drop,bl]at ac;have x:=O (zS blank (s.data.toList.drop (a+n)));rw[List.drop_drop]at x;have Z:=O (SV (t:=⟨k,t,a⟩) d);have v:=O (Uu h.u p.u m.u q);clear d q m h p u;go_wp2_with fail;rw[show ((a:Int)+(n:Int))=((a+n:Nat):Int) from by omega];refine(TJ s (a+n) _ (by omega) (by omega)).mono ?_;rintro a2 ap ⟨rfl,rfl⟩;generalize ae:sp blank (s.data.toList.drop (a+n))=a9 at*;clear ae;go_wp2_with fail;go_roundw;case rel=>exact⟨a+n+a9,L,_,H,c2,by omega,rfl,x,by omega,g,by grind,by simp,by grind,v⟩
       grind[intOf]
   .rw[wY (by omega)]at e;have g:=O e;clear e;have P:=o;obtain⟨V,N,R,S,T⟩:=info_parts Tryz.lr;have u:=O (m.u.alloc (.cells #[Value.int IntKind.i64 6,Value.string {data:=#[]},Value.int IntKind.i64 (s.size:Int)] 130));go_wp2_with (at_builtin;refine wpList_append_own _ rfl _ _ 98 rfl (w.heap.size+1) 130 V (.agg #[U 0,.string ⟨#[]⟩,U 0]) 3 32 underlying98 N R S T rfl (by decide) _ _ _ rfl u.u (J wr.heap.size 0) 1 1 [U 6,.string ⟨#[]⟩,U (s.size:Int)] rfl rfl ?c1 ?c2 ?c3 ?c4 ?c5 ?_);case c1=>simp_all[A1b]
    case c2=>intro ag r;simp at r;obtain rfl|rfl|rfl:=r<;>rfl
    case c3=>simp only[maxLen];omega
    case c4=>omega
    case c5=>simp;omega
    .intro v' W d q _;obtain⟨H,c2,z⟩:=TF d;rw[z]at d⊢;have Z:=O (SV (t:=⟨6,[],s.size⟩) d);have v:=O (kA h.u m.u q);clear d q m h u j a6 o z;obtain⟨j,a6,o⟩:=SK v.u;have A:W.cell? (J w.heap.size 0)=some (U 0):=j 0 _ rfl;have B:W.cell? (J w.heap.size 1)=some (U 0):=j 1 _ rfl;clear j;go_wp2_with fail;rw[g.u];exact bodyPost_ret (v:=.tuple #[.slice H (b.length+1) c2,.agg #[U 0,U ((0:Nat):Int)]]) (by simp[results,results36,go_sem,A,B]) rfl (Zh Z.u v.u _ _)
def mW(w:E)(a:Nat)(v:Value)(T:List Ty):Prop:=∃b,w.ownsRow a 81 4 v T.length b/\dS (dM w (λg=>a<=g)) T b
def Uw{w:E}{B c e}(l:e=w.heap.size){b}{L}{d}(f:B<=w.heap.size)(k:∀g,w.heap.size<=g->d g)(h:0<L.length)(j:w.ownsRow B 130 3 (.slice b L.length c) L.length (rows L)):
 aF (w.alloc (.cells #[.slice b L.length c,U 0,U 0,sN,sN] 103)) B e (.slice b L.length c) L d 0 ⟨0,[],[]⟩:=by
 subst l;exact⟨f,h,⟨by simp,by simp⟩,C8 (j.alloc _) (wQ _),⟨k _ (vQ _),λv g a i=>by rw[World.cell?_alloc_new]at a;grind[Value.ownBlock],λv g a i=>by rw[World.cell?_alloc_new]at a;cases a;simp_all[Value.ownBlock]⟩,_,_,[],[],yY w _,kW _ _ _ _,kW _ _ _ _,rfl,rfl⟩
