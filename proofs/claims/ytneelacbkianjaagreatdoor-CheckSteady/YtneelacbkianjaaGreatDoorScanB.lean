/-
  A part of the proof.
-/
import Derived.Test.YtneelacbkianjaaGreatDoorShelf
import Derived.Test.YtneelacbkianjaaGreatDoorWho
set_option maxHeartbeats 16000000
set_option maxRecDepth 100000
namespace Go.Proofs.YtneelacbkianjaaGreatDoor
open Go.Proofs.Tryz
open Go.RowKit
theorem N2a{W a:lZ}(c:Below W.heap.size W a):(∀b o,b<W.heap.size->a.cell? (J b o)=W.cell? (J b o))/\(∀b o,b<W.heap.size->a.frozen? (J b o)=W.frozen? (J b o)):=
 ⟨λb o h=>c.cell (p:=(J b o)) h,λb o h=>c.frozen (p:=(J b o)) h⟩
theorem I7a{w a:lZ}{o:Obj}(b:Below (w.alloc o).heap.size (w.alloc o) a)(c d e:Value):
 Below w.heap.size w (((a.setCell (J w.heap.size 0) c).setCell (J w.heap.size 1) d).setCell (J w.heap.size 2) e):=
 (((((Below.refl _ _).alloc (vQ _) o).trans (b.mono (by simp))).setCell (by simp) _).setCell (by simp) _).setCell (by simp) _
theorem Y6a(s:ByteArray)(a:Nat):(s.extract a s.size).data.toList=s.data.toList.drop a:=by
 rw[ByteArray.data_extract,Array.toList_extract,List.extract_eq_take_drop];have:s.data.toList.length=s.size:=bl s;rw[List.take_of_length_le (by rw[List.length_drop];omega)]
theorem S2c(s:ByteArray)(w:lZ)(c:s.size<=4000):Calls prog 164 #[.string s] w λe a=>e= .returned (.string s)/\Below w.heap.size w a:=by
 go_enter func164,ntmps164;go_wp2_with (go_at_call 193;refine(Tryz.stringslite_Clone _ _ (by omega)).mono ?_;rintro e a ⟨rfl,b⟩)
 go_ret;exact⟨rfl,b⟩
theorem Q6a(k:Int)(s:ByteArray)(w:lZ)(c:s.size<=4000):Calls prog 120 #[U k,.string s] w λe d=>e= .returned (.agg #[U k,.string s,U 0])/\Below w.heap.size w d:=by
 go_enter func120,ntmps120;go_wp2_with fail
 refine(S2c _ _ c).mono ?_;rintro e f ⟨rfl,a⟩;obtain⟨b,g⟩:=N2a a;have h:w.heap.size<f.heap.size:=by have:=a.size;simp at this;omega
 go_wp2;exact bodyPost_ret (v:= .agg #[U k,.string s,U 0]) (by simp[results,results120,go_sem,b]) rfl ⟨rfl,I7a a _ _ _⟩
theorem Q0b(s:ByteArray)(a:Nat)(w:lZ)(f:s.size<=4000)(d:a<=s.size):Calls prog 48 #[.string s,U a] w λe b=>e= .returned (U (a+sp blank (s.data.toList.drop a):Nat))/\b=w:=by
 go_enter func48,ntmps48;go_wp2_with fail
 refine(Z3b _ _ ?_).mono ?_
 · simp[maxLen];omega
 · rintro e b ⟨rfl,rfl⟩;have c:=G3a blank (s.data.toList.drop a);rw[List.length_drop,bl]at c;rw[Y6a s a];go_wp2;go_ret;exact⟨M7 (by omega),rfl⟩
theorem C5c(s:ByteArray)(w:lZ):Calls prog 122 #[.string s] w λe a=>e= .returned (.bool (X9 s.data.toList))/\a=w:=by
 go_enter func122,ntmps122;go_wp2;all_goals first|(exfalso;simp_all;done)|skip
 all_goals go_ret
 all_goals refine⟨F8 ?_,rfl⟩
 all_goals simp[X9,has,G0c,<-ByteArray.toList_eq]
 all_goals simp_all
theorem L8b(l:bZ)(a:List bZ)(k:Nat)(h:k<a.length):I7 l (a.take (k+1))=if a[k].isPrefixOf l then max (I7 l (a.take k)) a[k].length else I7 l (a.take k):=by
 rw[nQ h,I7,List.foldl_append];rfl
theorem O5a(l:bZ):∀(b:List bZ) (m:Nat),(∀g∈b,g.length<=2)->m<=2->b.foldl (λm g=>if g.isPrefixOf l then max m g.length else m) m<=2
 |[],m,_,a=>a
 |g::r,m,h,a=>by
  simp only[List.foldl_cons];refine O5a l r _ (λx c=>h x (List.mem_cons_of_mem _ c)) ?_;have:=h g List.mem_cons_self;split
  · exact Nat.max_le.2 ⟨a,this⟩
  · exact a
theorem T3b(s:ByteArray)(g c:Nat)(a:List bZ)(w:lZ)(u:a.length<=100)(b:∀x∈a,x.length<=2)
 (j:∀i (h:i<a.length),w.cell? (J g i)=some (.string ⟨a[i].toArray⟩)):
 Calls prog 125 #[.string s,.slice (some (J g 0)) a.length c] w λe d=>e= .returned (U (I7 s.data.toList a))/\d=w:=by
 go_enter func125,ntmps125;go_wp2;go_loop [5,10] (λz i=>∃k:Nat,k<=a.length/\i=U k/\z=U (I7 s.data.toList (a.take k))) (λ_ i=>a.length - (intOf i).toNat)
 case atStart=>exact⟨0,wQ _,rfl,rfl⟩
 case round=>
  obtain⟨k,q,rfl,rfl⟩:=hrel;by_cases l:k<a.length
  · have p:=j k l;have r:=b a[k] (mQ _);have t:I7 s.data.toList (a.take k)<=2:=O5a _ _ _ (λx o=>b x (List.mem_of_mem_take o)) (by omega);have f:Hid (I7 s.data.toList (a.take (k+1))=if a[k].isPrefixOf s.data.toList then max (I7 s.data.toList (a.take k)) a[k].length else I7 s.data.toList (a.take k)):=L8b _ _ _ l;clear j b;generalize I7 s.data.toList (a.take k)=m at *;generalize a[k]=x at *;cases n:Lib.hasPrefix s.data.toList x
    · go_wp2_with (go_at_call 124;refine(Tryz.strings_HasPrefix _ _ _).mono ?_;rintro e d ⟨rfl,rfl⟩)
      go_round
      case rel=>exact⟨k+1,by omega,by go_num,by rw[f.o,yY (by have:=n;unfold Lib.hasPrefix at this;simp[this])]⟩
      case measure=>simp[intOf];omega
    · go_wp2_with (go_at_call 124;refine(Tryz.strings_HasPrefix _ _ _).mono ?_;rintro e d ⟨rfl,rfl⟩)
      go_round
      case rel=>exact⟨k+1,by omega,by go_num,by rw[f.o,rY (by have:=n;unfold Lib.hasPrefix at this;simp[this])];congr 1;omega⟩
      case measure=>simp[intOf];omega
  · go_wp2;go_ret;exact⟨M7 (by rw[List.take_of_length_le (by omega)]),rfl⟩
def res(r:Int×bZ×Nat):Value:= .tuple #[.agg #[U r.1,.string ⟨r.2.1.toArray⟩,U 0],U r.2.2]
theorem U4b(s:ByteArray)(h:0<s.size):s.data.toList.head? =some s[0]:=by
 rw[List.head?_eq_getElem?,gQ (by rw[bl];exact h)];rfl
theorem Q2a{r:Int×bZ×Nat}{k:Int}{t:bZ}{n:Nat}{x:ByteArray}(h:r=(k,t,n))(a:x=⟨t.toArray⟩):
 Ending.returned (.tuple #[.agg #[U k,.string x,U 0],U n])= .returned (res r):=by subst h;subst a;rfl
theorem T6a{r:Int×bZ×Nat}(h:r=(0,[],0)):
 Ending.returned (.tuple #[.agg #[U 0,.string ⟨#[]⟩,U 0],U 0])= .returned (res r):=by subst h;rfl
theorem K9a(s:ByteArray)(n:Nat):s.extract 0 n=⟨(s.data.toList.take n).toArray⟩:=by rw[Lib.extract_eq];simp
theorem T5d(s:ByteArray)(n:Nat):s.extract 1 (1+n)=⟨(s.data.toList.tail.take n).toArray⟩:=by rw[Lib.extract_eq,List.drop_one];simp
theorem G8a(s:ByteArray)(a b:Nat):(s.extract a b).size<=s.size:=by rw[ByteArray.size_extract];omega
theorem U7d(c:UInt8)(n:Nat)(h:n<256):c=UInt8.ofNat n ↔ c.toNat=n:=by
 constructor
 · rintro rfl;simp;omega
 · intro e;apply UInt8.toNat_inj.1;simp;omega
theorem B5c(s:ByteArray)(w:lZ)(h:s.size<=4000)(d:0<s.size):Calls prog 85 #[.string s] w λe i=>e= .returned (res (C4a s.data.toList))/\Below w.heap.size w i:=by
 have g:=G3a dig s.data.toList;rw[bl]at g;have b:Hid (C4a s.data.toList=if 9<sp dig s.data.toList\/s[0].toNat=48/\1<sp dig s.data.toList then (0,[],0) else (3,s.data.toList.take (sp dig s.data.toList),sp dig s.data.toList)):=by
  show _=_;rw[C4a,U4b s d];simp only[zQ];simp only[show (s[0]=48 ↔ s[0].toNat=48) from U7d _ 48 (by omega)]
 generalize C4a s.data.toList=r at *;go_enter func85,ntmps85;go_wp2_with fail
 refine(Z2b _ _ (by simp only[maxLen];omega)).mono ?_;rintro e c ⟨rfl,rfl⟩;generalize sp dig s.data.toList=n at *;go_wp2_with fail
 · exact bodyPost_ret (v:= .tuple #[.agg #[U 0,.string ⟨#[]⟩,U 0],U 0]) (by simp[results,results85,go_sem]) rfl ⟨T6a (by rw[b.o,rY (by omega)]),(Below.refl _ _).alloc (vQ _) _⟩
 all_goals first|exact bodyPost_ret (v:= .tuple #[.agg #[U 0,.string ⟨#[]⟩,U 0],U 0]) (by simp[results,results85,go_sem]) rfl ⟨T6a (by rw[b.o,rY (by omega)]),(Below.refl _ _).alloc (vQ _) _⟩|skip
 all_goals
  refine(Q6a _ _ _ (kQ (G8a _ _ _) h)).mono ?_;rintro e c ⟨rfl,a⟩;obtain⟨f,j⟩:=N2a a;have k:w.heap.size<c.heap.size:=by have:=a.size;simp at this;omega
  go_wp2;exact bodyPost_ret (v:= .tuple #[.agg #[U 3,.string (s.extract 0 n),U 0],U n]) (by simp[results,results85,go_sem,f]) rfl ⟨Q2a (by rw[b.o,yY (by omega)]) (K9a _ _),I7a a _ _ _⟩
theorem A7d(s:ByteArray)(w:lZ)(i:s.size<=4000):Calls prog 87 #[.string s] w λe j=>e= .returned (res (name s.data.toList))/\Below w.heap.size w j:=by
 have h:=G3a nam s.data.toList;rw[bl]at h;have b:Hid (name s.data.toList=if 20<sp nam s.data.toList then (0,[],0) else (if X9 (s.data.toList.take (sp nam s.data.toList)) then 2 else 1,s.data.toList.take (sp nam s.data.toList),sp nam s.data.toList)):=rfl;generalize name s.data.toList=r at *;go_enter func87,ntmps87;go_wp2_with fail
 refine(Z1b _ _ (by simp only[maxLen];omega)).mono ?_;rintro e c ⟨rfl,rfl⟩;generalize sp nam s.data.toList=n at *;by_cases l:(20:Int)<n
 · go_wp2_with fail
   exact bodyPost_ret (v:= .tuple #[.agg #[U 0,.string ⟨#[]⟩,U 0],U 0]) (by simp[results,results87,go_sem]) rfl ⟨T6a (by rw[b.o,rY (by omega)]),(Below.refl _ _).alloc (vQ _) _⟩
 · go_wp2_with fail
   refine(C5c _ _).mono ?_;rintro e c ⟨rfl,rfl⟩;have g:Hid (X9 (s.extract 0 n).data.toList=X9 (s.data.toList.take n)):=by show _=_;rw[K9a]
   cases f:X9 (s.extract 0 n).data.toList;all_goals
    go_wp2_with fail
    refine(Q6a _ _ _ (kQ (G8a _ _ _) i)).mono ?_;rintro e c ⟨rfl,a⟩;obtain⟨d,k⟩:=N2a a;have m:w.heap.size<c.heap.size:=by have:=a.size;simp at this;omega
    go_wp2
   · exact bodyPost_ret (v:= .tuple #[.agg #[U 1,.string (s.extract 0 n),U 0],U n]) (by simp[results,results87,go_sem,d]) rfl ⟨Q2a (by rw[b.o,yY (by omega),<-g.o,f];rfl) (K9a _ _),I7a a _ _ _⟩
   · exact bodyPost_ret (v:= .tuple #[.agg #[U 2,.string (s.extract 0 n),U 0],U n]) (by simp[results,results87,go_sem,d]) rfl ⟨Q2a (by rw[b.o,yY (by omega),<-g.o,f];rfl) (K9a _ _),I7a a _ _ _⟩
theorem P3d(l:bZ):Lib.hasPrefix l [34]=true ↔ l.head? =some 34:=by
 cases l with
 |nil=>simp[Lib.hasPrefix]
 |cons c r=>simp only[Lib.hasPrefix,List.isPrefixOf,List.head?_cons,zQ,Bool.and_true,beq_iff_eq];exact eq_comm
theorem V0c(s:ByteArray)(w:lZ)(l:s.size<=4000)(o:0<s.size):Calls prog 88 #[.string s] w λe m=>e= .returned (res (text s.data.toList))/\Below w.heap.size w m:=by
 have j:=G3a txt s.data.toList.tail;rw[List.length_tail,bl]at j;have b:Hid (text s.data.toList=if 30<sp txt s.data.toList.tail\/(s.data.toList.tail.drop (sp txt s.data.toList.tail)).head? ≠some 34 then (0,[],0) else (4,s.data.toList.tail.take (sp txt s.data.toList.tail),sp txt s.data.toList.tail+2)):=rfl;have i:Hid ((s.extract 1 s.size).data.toList=s.data.toList.tail):=by show _=_;rw[Y6a,List.drop_one]
 generalize text s.data.toList=r at *;go_enter func88,ntmps88;go_wp2_with fail
 refine(Z0b _ _ (by simp only[maxLen];have:=G8a s 1 s.size;omega)).mono ?_;rintro e c ⟨rfl,rfl⟩;rw[i.o];generalize k:sp txt s.data.toList.tail=n at *;clear k;by_cases q:(30:Int)<n
 · go_wp2_with fail
   exact bodyPost_ret (v:= .tuple #[.agg #[U 0,.string ⟨#[]⟩,U 0],U 0]) (by simp[results,results88,go_sem]) rfl ⟨T6a (by rw[b.o,rY (by omega)]),(Below.refl _ _).alloc (vQ _) _⟩
 · go_wp2_with fail
   refine(Tryz.strings_HasPrefix _ _ _).mono ?_;rintro e c ⟨rfl,rfl⟩;have f:Hid (Lib.hasPrefix (s.extract (1+n) s.size).data.toList (ByteArray.mk #[34]).data.toList=true ↔ (s.data.toList.tail.drop n).head? =some 34):=by
    show _ ↔ _;rw[Y6a,<-List.drop_one,List.drop_drop];exact P3d _
   cases d:Lib.hasPrefix (s.extract (1+n) s.size).data.toList (ByteArray.mk #[34]).data.toList
   · go_wp2_with fail
     exact bodyPost_ret (v:= .tuple #[.agg #[U 0,.string ⟨#[]⟩,U 0],U 0]) (by simp[results,results88,go_sem]) rfl ⟨T6a (by rw[b.o,rY (Or.inr (λh=>by have:=f.o.2 h;rw[d]at this;cases this))]),(Below.refl _ _).alloc (vQ _) _⟩
   · go_wp2_with fail
     refine(Q6a _ _ _ (kQ (G8a _ _ _) l)).mono ?_;rintro e c ⟨rfl,a⟩;obtain⟨g,p⟩:=N2a a;have t:w.heap.size<c.heap.size:=by have:=a.size;simp at this;omega
     go_wp2;exact bodyPost_ret (v:= .tuple #[.agg #[U 4,.string (s.extract 1 (1+n)),U 0],U ((n+2:Nat):Int)]) (by simp[results,results88,go_sem,g]) rfl ⟨Q2a (by rw[b.o,yY (λh=>h.elim (λh=>by omega) (λh=>h (f.o.1 d)))]) (T5d _ _),I7a a _ _ _⟩
theorem longest_len(l:bZ):∀(b:List bZ) (m:Nat),m<=l.length->b.foldl (λm g=>if g.isPrefixOf l then max m g.length else m) m<=l.length
 |[],m,a=>a
 |g::r,m,a=>by
  simp only[List.foldl_cons];refine longest_len l r _ ?_;split
  · rename_i h;exact Nat.max_le.2 ⟨a,(List.isPrefixOf_iff_prefix.1 h).length_le⟩
  · exact a
theorem W8b{w:lZ}(a b:Obj):Below w.heap.size w ((w.alloc a).alloc b):=((Below.refl _ _).alloc (vQ _) a).alloc (by simp) b
theorem V3d{w b:lZ}{o a:Obj}(c:Below ((w.alloc o).alloc a).heap.size ((w.alloc o).alloc a) b)(d e f:Value):
 Below w.heap.size w (((b.setCell (J w.heap.size 0) d).setCell (J w.heap.size 1) e).setCell (J w.heap.size 2) f):=
 ((((W8b o a).trans (c.mono (by simp;omega))).setCell (by simp) _).setCell (by simp) _).setCell (by simp) _
theorem A0c(w:lZ)(i:Nat)(h:i<A1a.length):(w.alloc (.cells #[.string ⟨#[61,61]⟩,.string ⟨#[61,62]⟩,.string ⟨#[40]⟩,.string ⟨#[41]⟩,.string ⟨#[123]⟩,.string ⟨#[125]⟩,.string ⟨#[91]⟩,.string ⟨#[93]⟩,.string ⟨#[44]⟩,.string ⟨#[59]⟩,.string ⟨#[58]⟩,.string ⟨#[46]⟩,.string ⟨#[61]⟩,.string ⟨#[60]⟩,.string ⟨#[43]⟩,.string ⟨#[45]⟩,.string ⟨#[42]⟩,.string ⟨#[33]⟩,.string ⟨#[124]⟩] 9)).cell? (J w.heap.size i)=some (.string ⟨A1a[i].toArray⟩):=by
 rw[cell_of_row _ _ _ _ _ _ (qY w _)];have a:i<19:=h;have:i=0\/i=1\/i=2\/i=3\/i=4\/i=5\/i=6\/i=7\/i=8\/i=9\/i=10\/i=11\/i=12\/i=13\/i=14\/i=15\/i=16\/i=17\/i=18:=by omega
 rcases this with rfl|rfl|rfl|rfl|rfl|rfl|rfl|rfl|rfl|rfl|rfl|rfl|rfl|rfl|rfl|rfl|rfl|rfl|rfl<;>rfl
theorem W4c(s:ByteArray)(w:lZ)(j:s.size<=4000):Calls prog 89 #[.string s] w λe k=>e= .returned (res (T3a s.data.toList))/\Below w.heap.size w k:=by
 have l:I7 s.data.toList A1a<=2:=O5a _ _ _ (by decide) (by omega);have p:I7 s.data.toList A1a<=s.size:=by have:=longest_len s.data.toList A1a 0 (by omega);rw[bl]at this;exact this
 have c:Hid (T3a s.data.toList=if I7 s.data.toList A1a=0 then (0,[],0) else (5,s.data.toList.take (I7 s.data.toList A1a),I7 s.data.toList A1a)):=rfl;generalize T3a s.data.toList=r at *;go_enter func89,ntmps89;go_wp2_with fail
 refine(T3b s (w.heap.size+1) 19 A1a _ (by decide) (by decide) (λi h=>by have:=A0c (w.alloc (Obj.cells #[Value.int IntKind.i64 0,Value.string { data:=#[] },Value.int IntKind.i64 0] 116)) i h;rw[World.size_alloc]at this;exact this)).mono ?_;rintro e d ⟨rfl,rfl⟩;generalize I7 s.data.toList A1a=n at *;by_cases b:n=0
 · subst b;go_wp2_with fail
   exact bodyPost_ret (v:= .tuple #[.agg #[U 0,.string ⟨#[]⟩,U 0],U 0]) (by simp[results,results89,go_sem]) rfl ⟨T6a (by rw[c.o];simp),W8b _ _⟩
 · have q:((n:Int)==0)=false:=by simp;omega
   go_wp2_with fail
   refine(Q6a _ _ _ (kQ (G8a _ _ _) j)).mono ?_;rintro e d ⟨rfl,a⟩;obtain⟨f,m⟩:=N2a a;have t:w.heap.size+1<d.heap.size:=by have:=a.size;simp at this;omega
   go_wp2;have g:=λo=>f w.heap.size o (by simp;omega);exact bodyPost_ret (v:= .tuple #[.agg #[U 5,.string (s.extract 0 n),U 0],U n]) (by simp[results,results89,go_sem,g]) rfl ⟨Q2a (by rw[c.o,yY b]) (K9a _ _),V3d a _ _ _⟩
theorem R6c(s:ByteArray)(w:lZ)(i:s.size<=4000)(j:0<s.size):Calls prog 49 #[.string s] w λe c=>e= .returned (res (firstQ s.data.toList))/\Below w.heap.size w c:=by
 have b:Hid (firstQ s.data.toList=if dig s[0].toNat then C4a s.data.toList else if let' s[0].toNat then name s.data.toList else if s[0].toNat=34 then text s.data.toList else T3a s.data.toList):=by
  show _=_;rw[firstQ,U4b s j]
 have q:(0:Int)<s.size:=by omega
 generalize firstQ s.data.toList=r at *;cases h:dig s[0].toNat
 · cases m:let' s[0].toNat
   · by_cases g:s[0].toNat=34
     · rw[h,m,yY (by simp),yY (by simp),rY g]at b;have p:(((s[0].toNat:Nat):Int)==34)=true:=by rw[g];rfl
       clear g;go_enter func49,ntmps49;go_wp2_with (first|(go_at_call 84;refine(Y4 _ _).mono ?_;rintro e c ⟨rfl,rfl⟩)|(go_at_call 86;refine(D2a _ _).mono ?_;rintro e c ⟨rfl,rfl⟩))
       refine(V0c _ _ i j).mono ?_;rintro e f ⟨rfl,a⟩;rw[<-b.o];unfold res;obtain⟨k,t,n⟩:=r;obtain⟨d,l⟩:=N2a a;have o:w.heap.size<f.heap.size:=by have:=a.size;simp at this;omega
       go_wp2;exact bodyPost_ret (v:=res (k,t,n)) (by simp[results,results49,go_sem,d,res]) rfl ⟨rfl,I7a a _ _ _⟩
     · rw[h,m,yY (by simp),yY (by simp),yY g]at b;have p:(((s[0].toNat:Nat):Int)==34)=false:=by simp;omega
       clear g;go_enter func49,ntmps49;go_wp2_with (first|(go_at_call 84;refine(Y4 _ _).mono ?_;rintro e c ⟨rfl,rfl⟩)|(go_at_call 86;refine(D2a _ _).mono ?_;rintro e c ⟨rfl,rfl⟩))
       refine(W4c _ _ i).mono ?_;rintro e f ⟨rfl,a⟩;rw[<-b.o];unfold res;obtain⟨k,t,n⟩:=r;obtain⟨d,l⟩:=N2a a;have o:w.heap.size<f.heap.size:=by have:=a.size;simp at this;omega
       go_wp2;exact bodyPost_ret (v:=res (k,t,n)) (by simp[results,results49,go_sem,d,res]) rfl ⟨rfl,I7a a _ _ _⟩
   · rw[h,m,yY (by simp),rY rfl]at b;go_enter func49,ntmps49;go_wp2_with (first|(go_at_call 84;refine(Y4 _ _).mono ?_;rintro e c ⟨rfl,rfl⟩)|(go_at_call 86;refine(D2a _ _).mono ?_;rintro e c ⟨rfl,rfl⟩))
     refine(A7d _ _ i).mono ?_;rintro e f ⟨rfl,a⟩;rw[<-b.o];unfold res;obtain⟨k,t,n⟩:=r;obtain⟨d,l⟩:=N2a a;have o:w.heap.size<f.heap.size:=by have:=a.size;simp at this;omega
     go_wp2;exact bodyPost_ret (v:=res (k,t,n)) (by simp[results,results49,go_sem,d,res]) rfl ⟨rfl,I7a a _ _ _⟩
 · rw[h,rY rfl]at b;go_enter func49,ntmps49;go_wp2_with (go_at_call 84;refine(Y4 _ _).mono ?_;rintro e c ⟨rfl,rfl⟩)
   refine(B5c _ _ i j).mono ?_;rintro e f ⟨rfl,a⟩;rw[<-b.o];unfold res;obtain⟨k,t,n⟩:=r;obtain⟨d,l⟩:=N2a a;have o:w.heap.size<f.heap.size:=by have:=a.size;simp at this;omega
   go_wp2;exact bodyPost_ret (v:=res (k,t,n)) (by simp[results,results49,go_sem,d,res]) rfl ⟨rfl,I7a a _ _ _⟩
theorem Tryz.info116:(prog.info? 116).map (λi=>(i.zero,i.size,i.bytes))=some (some (.agg #[U 0,.string ⟨#[]⟩,U 0]),3,32):=by kernel_rfl
def Ans(R:List Tk×Int×Nat)(w:lZ)(e:Ending)(b:lZ):Prop:=
 ∃a c,e= .returned (.tuple #[.slice a R.1.length c,.agg #[U R.2.1,U (R.2.2:Int)]])/\b.ownsRow w.heap.size 116 3 (.slice a R.1.length c) R.1.length (F9a R.1)/\Below w.heap.size w b
theorem L4b{w:lZ}{b c:Nat}{e:TypeId}{d:Nat}{v:Value}{n:Nat}{f:List Value}(h:w.ownsRow b e d v n f)(j:c<=b):w.ownsRow c e d v n f:=by
 obtain⟨i,a⟩:=h;refine⟨i, ?_⟩;rcases a with a|⟨g,cap,cur,hv,hg,r⟩
 · exact .inl a
 · exact .inr ⟨g,cap,cur,hv,kQ j hg,r⟩
theorem Q5a{w:lZ}{b:Nat}{e:TypeId}{f:Nat}{v:Value}{n:Nat}{i:List Value}(h:w.ownsRow b e f v n i):∃a c,v= .slice a n c:=by
 rcases h.2 with ⟨rfl,rfl⟩|⟨g,j,k,d,_⟩
 · exact⟨_,_,rfl⟩
 · exact⟨_,_,d⟩
theorem V2a{w b:lZ}(e:Int)(a:Nat)(c:Below w.heap.size w b):Ans ([],e,a) w (.returned (.tuple #[sN,.agg #[U e,U (a:Int)]])) b:=
 ⟨none,0,rfl,kW _ _ _ _,c⟩
theorem S4b{w wr:lZ}{a:Array Value}{t:TypeId}(h:Below (w.heap.size+1) (w.alloc (.cells a t)) wr):
 (∀o v,a[o]? =some v->wr.cell? (J w.heap.size o)=some v)/\(∀o,wr.frozen? (J w.heap.size o)=false)/\w.heap.size<wr.heap.size:=by
 refine⟨λo v b=> ?_,λo=> ?_, ?_⟩
 · rw[h.cell (p:=(J w.heap.size o)) (by simp),World.cell?_alloc_new,b]
 · rw[h.frozen (p:=(J w.heap.size o)) (by simp)];simp
 · have:=h.size;simp at this;omega
theorem W8a{w wr e:lZ}{o h:Obj}(g:Below (w.heap.size+1) (w.alloc o) wr)(f:Below wr.heap.size wr e)(c d:Value):
 Below w.heap.size w (((e.setCell (J w.heap.size 0) c).setCell (J w.heap.size 1) d).alloc h):=by
 have a:Below w.heap.size w wr:=((Below.refl _ _).alloc (vQ _) o).trans (g.mono (by omega));have b:=((a.trans (f.mono a.size)).setCell (p:=(J w.heap.size 0)) (by simp) c).setCell (p:=(J w.heap.size 1)) (by simp) d;exact b.alloc b.size _
theorem F1b{w d:lZ}{b:Nat}{e:TypeId}{c:Nat}{v:Value}{n:Nat}{f:List Value}(h:w.ownsRow b e c v n f)(a:Below w.heap.size w d):d.ownsRow b e c v n f:=
 h.kept (row:=none) ⟨a.os,a.tape,a.output,a.size,λk g _=>a.block k g⟩ (by cases i:v.ownBlock<;>simp)
theorem D4b(w:lZ)(o:Obj)(x y z:Value)(t:TypeId):∀j u,[x,y,z][j]? =some u->((w.alloc o).alloc (.cells #[x,y,z] t)).cell? (((J (w.heap.size+1) 0):Addr).add j)=some u:=by
 intro j u b;have a:((J (w.heap.size+1) 0):Addr).add j=(J (w.heap.size+1) j):=by unfold Addr.add;split<;>simp_all
 rw[a,World.cell?_alloc_at _ _ _ _ (by simp)];rw[<-b];simp
theorem D3b(w:lZ)(x y z:Value)(t:TypeId):∀j u,[x,y,z][j]? =some u->(w.alloc (.cells #[x,y,z] t)).cell? (((J w.heap.size 0):Addr).add j)=some u:=by
 intro j u b;have a:((J w.heap.size 0):Addr).add j=(J w.heap.size j):=by unfold Addr.add;split<;>simp_all
 rw[a,World.cell?_alloc_at _ _ _ _ rfl];rw[<-b];simp
theorem R3b{e:lZ}{d n:Nat}{b:Option Addr}{c:Nat}{a:List Tk}{t:Tk}(h:e.ownsRow d 116 3 (.slice b n c) n (F9a a++[U t.kind,.string ⟨t.text.toArray⟩,U (t.at':Int)])):
 e.ownsRow d 116 3 (.slice b n c) n (F9a (a++[t])):=by rw[N9c];exact h
theorem rel_below'{w wr c:lZ}{o b:Obj}{v:Value}{n:Nat}{h:List Value}(a:Below (w.heap.size+1) (w.alloc o) wr)(f:wr.ownsRow (w.heap.size+1) 116 3 v n h)
 (d:(wr.alloc b).grownBy c v.ownBlock):Below (w.heap.size+1) (w.alloc o) c:=by
 have g:w.heap.size+1<=wr.heap.size:=by have:=a.size;simpa using this
 exact(a.alloc g b).grown d (by simp;omega) (λk e=>(f.lt k e).1)
theorem O0c{w wr a g:lZ}{o e f:Obj}{v:Value}{n:Nat}{p:List Value}(c:Below (w.heap.size+1) (w.alloc o) wr)(b:Below wr.heap.size wr a)(l:wr.ownsRow (w.heap.size+1) 116 3 v n p)
 (i:((a.alloc e).alloc f).grownBy g v.ownBlock):Below (w.heap.size+1) (w.alloc o) g:=by
 have d:w.heap.size+1<=wr.heap.size:=by have:=c.size;simpa using this
 have h:=c.trans (b.mono d);have m:w.heap.size+1<=a.heap.size:=kQ d b.size;exact((h.alloc m e).alloc (by simp;omega) f).grown i (by simp;omega) (λk j=>(l.lt k j).1)
theorem F7e{w d:lZ}{o:Obj}{b:Option Addr}{c n:Nat}{a:List Tk}{L:Nat}(h:d.ownsRow (w.heap.size+1) 116 3 (.slice b (a.length+1) c) (a.length+1) (F9a (a++[⟨6,[],L⟩])))
 (g:Below (w.heap.size+1) (w.alloc o) d) (e f:Value):Ans (a++[⟨6,[],L⟩],0,n) w (.returned (.tuple #[.slice b (a.length+1) c,.agg #[U 0,U (n:Int)]])) ((d.setCell (J w.heap.size 0) e).setCell (J w.heap.size 1) f):=by
 refine⟨b,c,by simp, ?_,((((Below.refl _ _).alloc (vQ _) o).trans (g.mono (by omega))).setCell (by simp) _).setCell (by simp) _⟩;have:=L4b (ownsRow_setCell_below (ownsRow_setCell_below h (a:=(J w.heap.size 0)) (by simp) e) (a:=(J w.heap.size 1)) (by simp) f) (Nat.le_succ _);simpa using this
theorem Q7b(s:ByteArray)(w:lZ)(hs:s.size<=maxLen):Calls prog 25 #[.string s] w (Ans (F4 s.data.toList) w):=by
 have h:Hid (F4 s.data.toList=if 4000<s.size then ([],2,0) else J5 (s.size+1) s.data.toList 0 []):=by show _=_;unfold F4;rw[bl]
 generalize F4 s.data.toList=a7 at *;unfold maxLen at hs;by_cases ai:(4000:Int)<s.size
 · go_enter func25,ntmps25;go_wp2;rw[h.o,rY (by omega)];exact bodyPost_ret (v:= .tuple #[sN,.agg #[U 2,U ((0:Nat):Int)]]) (by simp[results,results25,go_sem]) rfl (V2a 2 0 ((Below.refl _ _).alloc (vQ _) _))
 · rw[yY (by omega)]at h;go_enter func25,ntmps25;go_wp2_with fail
   refine(Q0b s 0 _ (by omega) (by omega)).mono ?_;rintro e r ⟨rfl,rfl⟩;have a5:=G3a blank (s.data.toList.drop 0);rw[List.length_drop,bl]at a5;have a9:0+sp blank (s.data.toList.drop 0)<=s.size:=by omega
   clear a5;rw[Q9]at h;have h0:Hid (sp blank (s.data.toList.drop (0+sp blank (s.data.toList.drop 0)))=0):=by
    have a2:=X5a blank (s.data.toList.drop 0);rw[List.drop_drop]at a2;exact a2
   generalize 0+sp blank (s.data.toList.drop 0)=a at *;go_wp2_with fail
   go_loopw [4,5] (λag i wr=>∃(a f:Nat) (b:List Tk) (M:Option Addr) (c:Nat),a<=s.size/\i=U a/\Hid (sp blank (s.data.toList.drop a)=0)/\s.size - a<f+1/\Hid (a7=J5 (f+1) s.data.toList a b)/\b.length<=1000/\ag= .slice M b.length c/\
    Hid (wr.ownsRow (w.heap.size+1) 116 3 (.slice M b.length c) b.length (F9a b))/\Hid (Below (w.heap.size+1) (w.alloc (Obj.cells #[Value.int IntKind.i64 0,Value.int IntKind.i64 0] 26)) wr)) (λ_ i _=>s.size - (intOf i).toNat)
   case atStart=>exact⟨a,s.size,[],none,0,by omega,rfl,h0,by omega,h,by simp,rfl,kW _ _ _ _,Below.refl _ _⟩
   case round=>
    clear h h0 a9;obtain⟨a,f,b,M,c,ha,rfl,v,hf,h,ah,rfl,q,m⟩:=hrel;have g:=h.o;rw[P9a _ _ _ _ v.o,bl]at g;clear h v;obtain⟨j,E,p⟩:=S4b m.o;by_cases aj:a<s.size
    · rw[yY (by omega)]at g;go_wp2_with fail
      refine(R6c _ _ (kQ (G8a _ _ _) (by omega)) (by rw[ByteArray.size_extract];omega)).mono ?_;rintro e r ⟨rfl,B⟩;rw[Y6a];have a3:=V1b (s.data.toList.drop a);rw[List.length_drop,bl]at a3;generalize firstQ (s.data.toList.drop a)=ae at *;obtain⟨k,t,n⟩:=ae;simp only at g a3;unfold res;have K:=O g;clear g;obtain⟨R,a4⟩:=N2a B;have F:r.cell? (J w.heap.size 0)=some (U 0):=(R _ _ p).trans (j 0 _ rfl);have G:r.cell? (J w.heap.size 1)=some (U 0):=(R _ _ p).trans (j 1 _ rfl);have z0:∀o,r.frozen? (J w.heap.size o)=false:=λo=>(a4 _ _ p).trans (E o);have T:w.heap.size<r.heap.size:=yQ p B.size;have u:=O B;clear R a4 B j E;by_cases hn:n=0
      · subst hn;go_wp2_with fail
        rw[K.o,rY (by trivial)];exact bodyPost_ret (v:= .tuple #[sN,.agg #[U 1,U (a:Int)]]) (by simp[results,results25,go_sem,F,G,T]) rfl (V2a 1 a (W8a m.o u.o _ _))
      · have al:((n:Int)==0)=false:=by simp;omega
        have L:=K.o;rw[yY hn]at L;have l:=O L;clear L K;by_cases C:b.length=1000
        · have aa:((b.length:Int)==1000)=true:=by simp;omega
          rw[rY C]at l;clear C;go_wp2_with fail
          rw[l.o];exact bodyPost_ret (v:= .tuple #[sN,.agg #[U 2,U (a:Int)]]) (by simp[results,results25,go_sem,F,G,T]) rfl (V2a 2 a (W8a m.o u.o _ _))
        · have aa:((b.length:Int)==1000)=false:=by simp;omega
          rw[yY C]at l;have ak:b.length<1000:=by omega
          clear C;obtain⟨Y,S,V,W,X⟩:=info_parts Tryz.info116;have a6:=(F1b q.o u.o).alloc (.cells #[Value.int IntKind.i64 k,Value.string { data:=t.toArray },Value.int IntKind.i64 (a:Int)] 116);have z:=O (a6.alloc (.cells #[Value.int IntKind.i64 k,Value.string { data:=t.toArray },Value.int IntKind.i64 (a:Int)] 116));clear a6;go_wp2_with (at_builtin;refine wpList_append_own _ rfl _ _ 79 rfl (w.heap.size+1) 116 Y (.agg #[U 0,.string ⟨#[]⟩,U 0]) 3 32 underlying79 S V W X rfl (by decide) _ _ _ rfl z.o (J (r.heap.size+1) 0) 1 1 [U k,.string ⟨t.toArray⟩,U (a:Int)] rfl rfl ?c1 ?c2 ?c3 ?c4 ?c5 ?_)
          case c1=>exact D4b _ _ _ _ _ _
          case c2=>intro af y;simp at y;rcases y with rfl|rfl|rfl<;>rfl
          case c3=>simp only[maxLen];omega
          case c4=>omega
          case c5=>simp;omega
          · intro v' Z d x _;obtain⟨N,c2,D⟩:=Q5a d;rw[D]at d⊢;obtain⟨P,rfl⟩:∃P,f=P+1:=⟨f - 1,by omega⟩;rw[Q9]at l;have ab:=G3a blank (s.data.toList.drop (a+n));rw[List.length_drop,bl]at ab;have v:=O (X5a blank (s.data.toList.drop (a+n)));rw[List.drop_drop]at v;have H:=O (R3b (t:=⟨k,t,a⟩) d);have A:=O (O0c m.o u.o q.o x);clear d x q m u z;go_wp2_with fail
            rw[show ((a:Int)+(n:Int))=((a+n:Nat):Int) from by omega];refine(Q0b s (a+n) _ (by omega) (by omega)).mono ?_;rintro e am ⟨rfl,rfl⟩;generalize ac:sp blank (s.data.toList.drop (a+n))=a8 at *;clear ac;go_wp2_with fail
            go_roundw
            case rel=>exact⟨a+n+a8,P,_,N,c2,by omega,rfl,v,by omega,l,by simp;omega,by simp,by have:=H.o;show World.ownsRow _ _ _ _ _ _ _;simpa using this,A⟩
            case measure=>simp[intOf];omega
    · rw[rY (by omega)]at g;have l:=O g;clear g;have T:w.heap.size<wr.heap.size:=p;obtain⟨Y,S,V,W,X⟩:=info_parts Tryz.info116;have z:=O (q.o.alloc (.cells #[Value.int IntKind.i64 6,Value.string { data:=#[] },Value.int IntKind.i64 (s.size:Int)] 116));go_wp2_with (at_builtin;refine wpList_append_own _ rfl _ _ 79 rfl (w.heap.size+1) 116 Y (.agg #[U 0,.string ⟨#[]⟩,U 0]) 3 32 underlying79 S V W X rfl (by decide) _ _ _ rfl z.o (J wr.heap.size 0) 1 1 [U 6,.string ⟨#[]⟩,U (s.size:Int)] rfl rfl ?c1 ?c2 ?c3 ?c4 ?c5 ?_)
      case c1=>exact D3b _ _ _ _ _
      case c2=>intro af y;simp at y;rcases y with rfl|rfl|rfl<;>rfl
      case c3=>simp only[maxLen];omega
      case c4=>omega
      case c5=>simp;omega
      · intro v' Z d x _;obtain⟨N,c2,D⟩:=Q5a d;rw[D]at d⊢;have H:=O (R3b (t:=⟨6,[],s.size⟩) d);have A:=O (rel_below' m.o q.o x);clear d x q m z j E p D;obtain⟨j,E,p⟩:=S4b A.o;have F:Z.cell? (J w.heap.size 0)=some (U 0):=j 0 _ rfl;have G:Z.cell? (J w.heap.size 1)=some (U 0):=j 1 _ rfl;clear j;go_wp2_with fail
        rw[l.o];exact bodyPost_ret (v:= .tuple #[.slice N (b.length+1) c2,.agg #[U 0,U ((0:Nat):Int)]]) (by simp[results,results25,go_sem,F,G]) rfl (F7e H.o A.o _ _)
def TyOwn(w:lZ)(a:Nat)(v:Value)(T:List Ty):Prop:=∃b,w.ownsRow a 76 4 v T.length b/\Rws (TyV w (λg=>a<=g)) T b
def L4d(l:bZ)(w:lZ)(e:Ending)(d:lZ):Prop:=
 Below w.heap.size w d/\((∃b p,V3a l (.inl (b,p))/\e= .returned (.tuple #[sN,.agg #[U b,U p]]))\/
  ∃T a c,V3a l (.inr T)/\e= .returned (.tuple #[.slice a T.length c,.agg #[U 0,U 0]])/\TyOwn d w.heap.size (.slice a T.length c) T)
theorem H9c{w:lZ}{B c f:Nat}(l:f=w.heap.size){b:Option Addr}{L:List Tk}{e:Nat->Prop}(h:B<=w.heap.size)(k:∀g,w.heap.size<=g->e g)(i:0<L.length)(j:w.ownsRow B 116 3 (.slice b L.length c) L.length (F9a L)):
 Pst (w.alloc (.cells #[.slice b L.length c,U 0,U 0,sN,sN] 84)) B f (.slice b L.length c) L e 0 ⟨0,[],[]⟩:=by
 subst l;exact⟨h,i,⟨by simp,by simp⟩,C9 (j.alloc _) (wQ _),⟨k _ (vQ _),λv g a d=>by rw[World.cell?_alloc_new]at a;cases a;simp[Value.ownBlock]at d,λv g a d=>by rw[World.cell?_alloc_new]at a;cases a;simp[Value.ownBlock]at d⟩,_,_,[],[],qY w _,kW _ _ _ _,kW _ _ _ _,rfl,rfl⟩
theorem Y5a{w b:lZ}{l:bZ}{a p:Int}{o:Obj}(c:Below w.heap.size w b)(e:w.heap.size<b.heap.size)(d:V3a l (.inl (a,p))):
 L4d l w (.returned (.tuple #[sN,.agg #[U a,U p]])) (((b.setCell (J w.heap.size 0) (U a)).setCell (J w.heap.size 1) (U p)).alloc o).drew:=
 ⟨(((c.setCell (by simp) _).setCell (by simp) _).alloc (by simp;omega) _).drew,.inl ⟨a,p,d,rfl⟩⟩
theorem H4d{w f:lZ}{l:bZ}{h:Option Addr}{c:Nat}{T:List Ty}{j:List Value}{q:Array Value}{a b:Value}{o:Obj}(s:Below w.heap.size w f)(z:w.heap.size<f.heap.size)(p:f.heap[w.heap.size]? =some (.cells q 26 (0,0)))
 (n:f.ownsRow w.heap.size 76 4 (.slice h T.length c) T.length j) (v:Rws (TyV f (λg=>w.heap.size<=g)) T j) (y:V3a l (.inr T)):
 L4d l w (.returned (.tuple #[.slice h T.length c,.agg #[U 0,U 0]])) (((f.setCell (J w.heap.size 0) a).setCell (J w.heap.size 1) b).alloc o):=by
 have m:I (λk=>k=w.heap.size) f (((f.setCell (J w.heap.size 0) a).setCell (J w.heap.size 1) b).alloc o):=
  ((I.set f (J w.heap.size 0) a).trans (I.set _ (J w.heap.size 1) b) (λ_ _ x=>x)).trans (I.alloc No _ _) (λ_ _ x=>x.elim)
 refine⟨((s.setCell (by simp) _).setCell (by simp) _).alloc (by simp;omega) _,.inr ⟨T,h,c,y,rfl,j,A4 n m (λg u i=> ?_),v.imp (TyV.chg m (λg _ _ i d=> ?_) (λ_ x _=>x))⟩⟩
 · subst i;obtain⟨_,r,d⟩:=A9 n _ u;rw[p]at d;simp only[zQ,xW]at d;exact absurd d.2.1 (by decide)
 · subst i;obtain⟨r,e,d,t⟩:=d;rw[p]at d;simp only[zQ,xW]at d;rcases t with rfl|rfl<;>exact absurd d.2.1 (by decide)
theorem U3c(s:ByteArray)(w:lZ)(hs:s.size<=maxLen):Calls prog 15 #[.string s] w (L4d s.data.toList w):=by
 have M:=λd=>Q7b s d hs;go_enter func15,ntmps15;go_wp2_with fail
 refine(M _).mono ?_;clear M;rintro e d ⟨P,c,rfl,X,i⟩;obtain⟨L,qf,A⟩:=S1b (I.below i) (by simp);have Z:d.cell? (J w.heap.size 0)=some (U 0):=L 0 _ rfl;have q1:d.cell? (J w.heap.size 1)=some (U 0):=L 1 _ rfl;have D:=O (((Below.refl w.heap.size w).alloc (vQ _) (.cells #[U 0,U 0] 26)).trans (i.mono (by simp)));have m:=O ((i.block w.heap.size (by simp)).trans (qY w _));have E:=O (C9 X (by simp:w.heap.size<=_));clear L i X;by_cases q:(F4 s.data.toList).2.1=0
 · have a3:((F4 s.data.toList).2.1 !=0)=false:=by simp[q]
   obtain⟨a5,a4,T⟩:=H2b _ q;have a7:w.heap.size<=d.heap.size:=by omega
   have N:=E2b (w:=(d.alloc (.cells #[U 0,U ((F4 s.data.toList).2.2:Int)] 26)).alloc (.cells #[.slice P (F4 s.data.toList).1.length c,U 0,U 0,sN,sN] 84))
    (B:=w.heap.size) (pb:=d.heap.size+1) (ok:=λg=>w.heap.size<=g) ⟨a5,T⟩ (λg F=>by simp at F;omega) (by simp;omega) (H9c (by simp) (by simp;omega) (λg F=>by simp at F;omega) a4 (E.o.alloc _))
   have HE:Hid (∀o,Ev (F4 s.data.toList).1 (λr=>r.typ 0 ⟨0,[],[]⟩) o->Ev (F4 s.data.toList).1 (λr=>r.typ 0 ⟨0,[],[]⟩) o):=λ_ a2=>a2;have y:=O q;clear E T;go_wp2_with fail
   refine N.mono ?_;clear N;rintro e l ⟨z,o,S,j⟩;have v:Hid (l.heap[w.heap.size]? =some (.cells #[U 0,U 0] 26 (0,0))):=by
    have R:((d.alloc (.cells #[U 0,U ((F4 s.data.toList).2.2:Int)] 26)).alloc (.cells #[.slice P (F4 s.data.toList).1.length c,U 0,U 0,sN,sN] 84)).heap[w.heap.size]? =some (.cells #[U 0,U 0] 26 (0,0)):=by
     rw[Below.heap_alloc _ _ _ (by simp;omega),Below.heap_alloc _ _ _ A];exact m.o
    show _=_;rw[z.block w.heap.size (by simp;omega) (λx=> ?_)]
    · exact R
    · obtain⟨cs,e,fz,G,r⟩:=x.2.1;rw[R]at G;simp only[zQ,xW]at G;obtain⟨_,rfl,_⟩:=G;rcases r with r|r|r<;>exact absurd r (by decide)
   have k:w.heap.size<l.heap.size:=by have:=z.size;simp at this;omega
   have u:=O (((D.o.alloc a7 _).alloc (by simp;omega) _).trans (z.below (by simp;omega)));have f:=O S;have B:l.cell? (J w.heap.size 0)=some (U 0):=cr v.o rfl;have C:l.cell? (J w.heap.size 1)=some (U 0):=cr v.o rfl;have yf:∀o,l.frozen? (J w.heap.size o)=false:=λo=>frozen_of_row l _ o _ _ v.o;clear z S Z q1 qf A D HE;cases o with
   |fail n p=>
    obtain⟨rfl,V⟩:=j;have W:(n !=0)=true:=by simp[V]
    have b:=O (show V3a s.data.toList (.inl (n,p)) from ⟨V,.inr ⟨y.o,.inl f.o⟩⟩);clear f m;go_wp2_with fail
    go_region
    go_wp2_with fail
    exact bodyPost_ret (v:= .tuple #[sN,.agg #[U n,U p]]) (by simp[results,results15,go_sem,B,C,k]) rfl (Y5a u.o k b.o)
   |ok a x=>
    by_cases h:(tk (F4 s.data.toList).1 a.i).kind=6
    · simp only[h,if_true]at j;by_cases t:1200<a.N.length\/300<a.T.length
      · rw[rY t]at j;subst j;have b:=O (show V3a s.data.toList (.inl (2,0)) from ⟨by decide,.inr ⟨y.o,.inr ⟨a,x,f.o,by rw[rY h];exact⟨t,rfl,rfl⟩⟩⟩⟩);clear t h;have W:((2:Int) !=0)=true:=by decide
        clear f m;go_wp2_with fail
        go_region
        go_wp2_with fail
        exact bodyPost_ret (v:= .tuple #[sN,.agg #[U 2,U 0]]) (by simp[results,results15,go_sem,B,C,k]) rfl (Y5a u.o k b.o)
      · rw[yY t]at j;obtain⟨rfl,H⟩:=j;have b:=O (show V3a s.data.toList (.inr a.T) from ⟨y.o,a,x,f.o,h,by omega,by omega,rfl⟩);have PP:=O H;obtain⟨nv,yv,nx,yx,i,hn,K,a6,Y⟩:=H.blk;obtain⟨ya,yc,rfl⟩:=B9 K;have c4:l.cell? (J (d.heap.size+1) 4)=some (.slice ya a.T.length yc):=cr i rfl;have a8:=(ltG i);have OO:=O K;have RR:=O Y;clear H i hn K a6 Y t h f m;go_wp2_with fail
        exact bodyPost_ret (v:= .tuple #[.slice ya a.T.length yc,.agg #[U 0,U 0]]) (by simp[results,results15,go_sem,B,C,k]) rfl (H4d u.o k v.o OO.o RR.o b.o)
    · simp only[h,if_false]at j;subst j;have b:=O (show V3a s.data.toList (.inl (1,((tk (F4 s.data.toList).1 a.i).at':Int))) from ⟨by decide,.inr ⟨y.o,.inr ⟨a,x,f.o,by rw[yY h];exact⟨rfl,rfl⟩⟩⟩⟩);clear h;generalize ((tk (F4 s.data.toList).1 a.i).at':Int)=pp at *;have W:((1:Int) !=0)=true:=by decide
      clear f m;go_wp2_with fail
      go_region
      go_wp2_with fail
      exact bodyPost_ret (v:= .tuple #[sN,.agg #[U 1,U pp]]) (by simp[results,results15,go_sem,B,C,k]) rfl (Y5a u.o k b.o)
 · have a3:((F4 s.data.toList).2.1 !=0)=true:=by simp[q]
   have b:=O (show V3a s.data.toList (.inl ((F4 s.data.toList).2.1,((F4 s.data.toList).2.2:Int))) from ⟨q,.inl ⟨rfl,rfl⟩⟩);clear m E;generalize (F4 s.data.toList).2.1=n at *;generalize ((F4 s.data.toList).2.2:Int)=p at *;go_wp2_with fail
   go_region
   go_wp2_with fail
   exact bodyPost_ret (v:= .tuple #[sN,.agg #[U n,U p]]) (by simp[results,results15,go_sem,Z,q1,A]) rfl (Y5a D.o A b.o)
